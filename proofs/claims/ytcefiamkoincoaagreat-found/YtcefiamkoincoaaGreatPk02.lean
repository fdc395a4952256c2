/- a part of the proof in YtcefiamkoincoaaGreatFoundProof -/
import Derived.Test.YtcefiamkoincoaaGreatPk01
set_option maxRecDepth 100000
set_option maxHeartbeats 40000000
set_option linter.unusedVariables false
set_option linter.unusedSimpArgs false
namespace Go.Proofs.YtcefiamkoincoaaGreat
open Go.RowKit
variable {ya:Option Addr}{yn yc:Nat}
theorem Bd (l:List (Int × Int)) (k:Nat) (h:k < l.length):(Al l)[k * 2]?=some (.int .i64 l[k].1)∧(Al l)[k * 2+1]?=some (.int .i64 l[k].2)∧k * 2+1 < (Al l).length:=by
 induction l generalizing k with
 | nil=>simp at h
 | cons x r ih =>
  cases k with
  | zero=>simp [Al]
  | succ j =>
   have hj:j < r.length:=by simpa using h
   obtain ⟨p,q,z⟩:=ih j hj;have e:Al (x :: r)=.int .i64 x.1 :: .int .i64 x.2 :: Al r:=by simp [Al]
   rw [e,show (j+1) * 2=j * 2+1+1 by omega];refine ⟨by simpa using p,by simpa using q,by simp;omega⟩
theorem Cj {l:List Int}{x:Int × Int}{r:List (Int × Int)}:Tr.allPlainB l (x :: r)=(Tr.plainB l x.1 x.2 && Tr.allPlainB l r):=by simp [Tr.allPlainB]
theorem Gq (l:List Int) (a:Option Addr) (cap:Nat) (fa:Option Addr) (fn fc b:Nat) (fs:List (Int × Int)) (w:World) (hfl:fs.length≤1000) (hT:TysAt w b (.slice fa fn fc) fs) :
  Calls Tryz.prog 116 #[.agg #[.slice a l.length cap,.slice ya yn yc],.slice fa fn fc] w fun e w'=>e=.returned (.bool (Tr.allPlainB l fs))∧Below w.heap.size w w':=by
 obtain ⟨xa,xc,hsh⟩:=Ae hT;simp only [Value.slice.injEq] at hsh;obtain ⟨rfl,hn1,rfl⟩:=hsh;subst hn1;generalize hr:Tr.allPlainB l fs=r;have HR:Hid (Tr.allPlainB l (fs.drop 0)=r):=by unfold Hid;simpa using hr
 clear hr;have hB1:Below w.heap.size w (w.alloc (.cells #[.slice a l.length cap,.slice ya yn yc] 89)):=(Below.refl _ _).alloc (Nat.le_refl _) _;have hx1:=Ad w (.cells #[.slice a l.length cap,.slice ya yn yc] 89);go_enter Tryz.func116,Tryz.ntmps116;go_wp2
 go_loopw [9] (fun i wr=>∃ k:Nat,k≤fs.length∧i=.int .i64 k∧Hid (Tr.allPlainB l (fs.drop k)=r)∧Below w.heap.size w wr ∧
   wr.heap[w.heap.size]?=some (.cells #[.slice a l.length cap,.slice ya yn yc] 89 (0,0)))
  (fun i _=>fs.length - (intOf i).toNat)
 case atStart=>exact ⟨0,by omega,rfl,HR,hB1,hx1⟩
 case round =>
  clear hB1 hx1 HR;obtain ⟨k,hk,rfl,HR,hB,hx⟩:=hrel;have hBs:=hB.size;by_cases hkn:k < fs.length
  ·obtain ⟨g,hg,hglt,hbg,hcell⟩:=Am (Au hT (Kp.of_below (e:=none) hB) (by decide)) (by omega);obtain ⟨e1,e2,e3⟩:=Bd fs k hkn;have x0:=hcell (k * 2) (by omega);have x1:=hcell (k * 2+1) (by omega);rw [e1] at x0;rw [e2] at x1;have hd:fs.drop k=fs[k] :: fs.drop (k+1):=List.drop_eq_getElem_cons hkn;have hr:=Aa HR;rw [hd,Cj] at hr;generalize hf1:fs[k].1=f1 at *;generalize hf2:fs[k].2=f2 at *;obtain ⟨c0,c1⟩:=cl2 hx;have lx:=lt_of_block hx;simp at c0 c1;clear hcell e1 e2 e3 hf1 hf2 hd hbg;subst hg;cases hp:Tr.plainB l f1 f2 with
   | true =>
    have HF:Hid (Tr.allPlainB l (fs.drop (k+1))=r):=by unfold Hid;rw [← hr,hp];simp
    have HP:=Ac hp;clear hp hr;go_wp2_with fail
    refine (Ff l a cap f1 f2 _).mono ?_;rw [Aa HP];rintro e w2 ⟨rfl,hb2⟩;have hB2:Below w.heap.size w w2:=(hB.alloc hBs _).trans (hb2.mono (by simp;omega));have hx2:=stay hb2 ((Below.heap_alloc wr (.cells #[.int .i64 f1,.int .i64 f2] 39) _ lx).trans hx);clear hb2 hB hx c0 c1 x0 x1 lx;go_wp2
    go_roundw
    case rel=>exact ⟨k+1,by omega,by go_num,HF,hB2,hx2⟩
    case measure=>simp [intOf];omega
   | false =>
    have hf:r=false:=by rw [← hr,hp];simp
    have HF:=Ac hf;have HP:=Ac hp;clear hp hr hf;go_wp2_with fail
    refine (Ff l a cap f1 f2 _).mono ?_;rw [Aa HP];rintro e w2 ⟨rfl,hb2⟩;have hB2:Below w.heap.size w w2:=(hB.alloc hBs _).trans (hb2.mono (by simp;omega));go_wp2;go_ret;exact ⟨by rw [Aa HF];rfl,hB2⟩
  ·have hf:r=true:=by rw [← Aa HR,List.drop_eq_nil_of_le (by omega)];rfl
   have HF:=Ac hf;clear hf;go_wp2;go_ret;exact ⟨by rw [Aa HF];rfl,hB⟩
def Tr.inCl (l:List Int):Nat→List Rd.Cls→Int × Int
 | _,[]=>(0,0)
 | k,c :: r=>if 7+(k:Int)≤c.above then (3,7+(k:Int)) else if Tr.allPlainB l c.fields=false then (3,7+(k:Int)) else Tr.inCl l (k+1) r
theorem N2 (a1 a2:Option Addr) (n1 c1 n2 c2 b:Nat) (l:List (Rd.Cls × Value)) (w:World) (hl:l.length≤6) (hfl:∀ p∈l,p.1.fields.length≤1000) (hc:ClssIn w b (.slice a1 n1 c1) l) :
  Calls Tryz.prog 73 #[.agg #[.slice a1 n1 c1,.slice a2 n2 c2]] w fun e w' =>
   e=.returned (.agg #[.int .i64 (Tr.inCl (Tr.tree (l.map Prod.fst)) 0 (l.map Prod.fst)).1,.int .i64 (Tr.inCl (Tr.tree (l.map Prod.fst)) 0 (l.map Prod.fst)).2,.int .i64 0])∧Below w.heap.size w w':=by
 obtain ⟨xa,xc,hsh⟩:=Ae hc.1;simp only [Value.slice.injEq] at hsh;obtain ⟨rfl,hn1,rfl⟩:=hsh;subst hn1;generalize ht:Tr.tree (l.map Prod.fst)=T;generalize hr:Tr.inCl T 0 (l.map Prod.fst)=r;have HT:=Ac ht;have HR:Hid (Tr.inCl T 0 ((l.map Prod.fst).drop 0)=r):=by unfold Hid;simpa using hr
 clear hr ht;have hB0:=Aj w (.cells #[.slice a1 l.length c1,.slice a2 n2 c2] 63) (.cells #[.int .i64 0,.int .i64 0,.int .i64 0] 65);go_enter Tryz.func73,Tryz.ntmps73;go_wp2_with fail
 refine (Fx a1 a2 l.length c1 n2 c2 b l _ hl (hc.kp (Kp.of_below (e:=none) hB0) (by decide) (by decide))).mono ?_;rw [Aa HT];rintro e w1 ⟨g,cap,ya,yn,yc,rfl,hTr,hFs,hg,hb1⟩;clear hFs;have hB1:=hB0.trans (hb1.mono (by simp;omega));have hf:=stay hb1 (Ak w _ _);have hres:=stay hb1 (Ah w _ _);have lt1:=lt_of_block hres;have x0:=Ab hf 0;simp at x0;have lt0:=lt_of_block hf;have ht1:=Ad w1 (.cells #[.slice (some ⟨g,0,none⟩) T.length cap,.slice ya yn yc] 89);have hb0:Below w.heap.size w (w1.alloc (.cells #[.slice (some ⟨g,0,none⟩) T.length cap,.slice ya yn yc] 89)):=hB1.alloc hB1.size _;have hres1:=(Below.heap_alloc w1 (.cells #[.slice (some ⟨g,0,none⟩) T.length cap,.slice ya yn yc] 89) _ lt1).trans hres;clear hf hres hB1 hb1;go_wp2
 go_loopw [12] (fun i wr=>∃ k:Nat,k≤l.length∧i=.int .i64 k∧Hid (Tr.inCl T k ((l.map Prod.fst).drop k)=r)∧Below w.heap.size w wr ∧
   wr.heap[w1.heap.size]?=some (.cells #[.slice (some ⟨g,0,none⟩) T.length cap,.slice ya yn yc] 89 (0,0))∧wr.heap[w.heap.size+1]?=some (.cells #[.int .i64 0,.int .i64 0,.int .i64 0] 65 (0,0)))
  (fun i _=>l.length - (intOf i).toNat)
 case atStart=>exact ⟨0,by omega,rfl,HR,hb0,ht1,hres1⟩
 case round =>
  clear hb0 ht1 hres1 HR x0;obtain ⟨k,hk,rfl,HR,hB,htr,hres⟩:=hrel;have hBs:=hB.size;have lt2:=lt_of_block htr;have lt3:=lt_of_block hres;by_cases hkn:k < l.length
  ·have hcr:=hc.kp (Kp.of_below (e:=none) hB) (by decide) (by decide);obtain ⟨g',hg',hglt,hbg,hcell⟩:=Am hcr.1 (by omega);obtain ⟨e1,e2,e3⟩:=Cs l k hkn;have x0:=hcell (k * 2) (by omega);have x1:=hcell (k * 2+1) (by omega);rw [e1] at x0;rw [e2] at x1;have hfk:=hfl _ (List.getElem_mem hkn);have htk:=hcr.2 _ (List.getElem_mem hkn);obtain ⟨ua,uc,hu⟩:=Ae htk;rw [hu] at x1 htk;have hd:(l.map Prod.fst).drop k=l[k].1 :: (l.map Prod.fst).drop (k+1):=by
    rw [List.drop_eq_getElem_cons (by simpa using hkn)]
    simp
   have hr:=Aa HR;rw [hd,Tr.inCl] at hr;generalize hcl:l[k].1=cl at *;obtain ⟨c0,c1⟩:=cl2 htr;simp at c0 c1;clear hcell e1 e2 e3 hcl hd hbg hu hcr;subst hg';by_cases h1:7+(k:Int)≤cl.above
   ·rw [if_pos h1] at hr;have HF:=Ac hr;clear hr;obtain ⟨y0,y1,y2⟩:=cl3 hres;obtain ⟨f0,f1,f2⟩:=fr3 hres;simp at y0 y1 y2;go_wp2;refine bodyPost_ret (v:=.agg #[.int .i64 3,.int .i64 (7+(k:Int)),.int .i64 0]) (by simp [results,Tryz.results73,go_sem,y0,y1,y2,lt3]) rfl ?_;exact ⟨by rw [← Aa HF],(((hB.setCell (by simp) _).setCell (by simp) _).setCell (by simp) _).alloc (by simp;omega) _⟩
   ·rw [if_neg h1] at hr;cases hp:Tr.allPlainB T cl.fields with
    | true =>
     rw [hp,if_neg (by simp)] at hr;have HF:=Ac hr;have HP:=Ac hp;clear hr hp;go_wp2_with fail
     refine (Gq T (some ⟨g,0,none⟩) cap ua cl.fields.length uc b cl.fields _ hfk (htk.kp (Kp.alloc (e:=none) _ _) (by decide))).mono ?_;rw [Aa HP];rintro e w2 ⟨rfl,hb2⟩;have hB2:Below w.heap.size w w2:=(hB.alloc hBs _).trans (hb2.mono (by simp;omega));have htr2:=stay hb2 ((Below.heap_alloc wr (.cells #[.int .i64 cl.above,.slice ua cl.fields.length uc] 102) _ lt2).trans htr);have hres2:=stay hb2 ((Below.heap_alloc wr (.cells #[.int .i64 cl.above,.slice ua cl.fields.length uc] 102) _ lt3).trans hres);clear hb2 hB htr hres x0 x1 c0 c1;go_wp2
     go_roundw
     case rel=>exact ⟨k+1,by omega,by go_num,HF,hB2,htr2,hres2⟩
     case measure=>simp [intOf];omega
    | false =>
     rw [hp,if_pos rfl] at hr;have HF:=Ac hr;have HP:=Ac hp;clear hr hp;go_wp2_with fail
     refine (Gq T (some ⟨g,0,none⟩) cap ua cl.fields.length uc b cl.fields _ hfk (htk.kp (Kp.alloc (e:=none) _ _) (by decide))).mono ?_;rw [Aa HP];rintro e w2 ⟨rfl,hb2⟩;have hB2:Below w.heap.size w w2:=(hB.alloc hBs _).trans (hb2.mono (by simp;omega));have htr2:=stay hb2 ((Below.heap_alloc wr (.cells #[.int .i64 cl.above,.slice ua cl.fields.length uc] 102) _ lt2).trans htr);have hres2:=stay hb2 ((Below.heap_alloc wr (.cells #[.int .i64 cl.above,.slice ua cl.fields.length uc] 102) _ lt3).trans hres);obtain ⟨y0,y1,y2⟩:=cl3 hres2;obtain ⟨f0,f1,f2⟩:=fr3 hres2;simp at y0 y1 y2;go_wp2;refine bodyPost_ret (v:=.agg #[.int .i64 3,.int .i64 (7+(k:Int)),.int .i64 0]) (by simp [results,Tryz.results73,go_sem,y0,y1,y2]) rfl ?_;exact ⟨by rw [← Aa HF],((hB2.setCell (by simp) _).setCell (by simp) _).setCell (by simp) _⟩
  ·have hf:r=(0,0):=by rw [← Aa HR,List.drop_eq_nil_of_le (by simp;omega)];rfl
   have HF:=Ac hf.symm;clear hf;obtain ⟨y0,y1,y2⟩:=cl3 hres;obtain ⟨f0,f1,f2⟩:=fr3 hres;simp at y0 y1 y2;go_wp2;refine bodyPost_ret (v:=.agg #[.int .i64 0,.int .i64 0,.int .i64 0]) (by simp [results,Tryz.results73,go_sem,y0,y1,y2]) rfl ?_;exact ⟨by rw [← Aa HF],((hB.setCell (by simp) _).setCell (by simp) _).setCell (by simp) _⟩
theorem Ei {α:Type} (P:α→Prop) (f:Rd.St→α × Rd.St) (h:∀ t,P (f t).1) (n:Nat) (t:Rd.St):∀ x∈(Rd.rep f n t).1,P x:=by
 induction n with
 | zero=>simp [Rd.rep]
 | succ k ih =>
  intro x hx;simp only [Rd.rep,List.mem_append,List.mem_singleton] at hx;rcases hx with hx | hx
  ·exact ih x hx
  ·rw [hx];exact h _
theorem Hq (s:List UInt8):(Rd.read s).1.classes.length≤6∧∀ c∈(Rd.read s).1.classes,c.fields.length≤1000:=by
 unfold Rd.read
 split
 ·simp
 ·split
  ·simp
  ·simp only [Rd.fil];refine ⟨?_,?_⟩
   ·rw [Rd.rep_len];have:=Rd.cn_bd s 0 6 (Rd.ex s 77 (Rd.ex s 83 ⟨0,false⟩)) (by omega);omega
   ·refine Ei _ _ (fun t=>?_) _ _;simp only [Rd.cls];rw [tys_len];have:=Rd.cn_bd s 0 4 (Rd.nx s t).2 (by omega);omega
theorem Eo (w:World) (o0 o1 o2:Obj):(((w.alloc o0).alloc o1).alloc o2).heap[w.heap.size]?=some o0∧(((w.alloc o0).alloc o1).alloc o2).heap[w.heap.size+1]?=some o1 ∧
  (((w.alloc o0).alloc o1).alloc o2).heap[w.heap.size+1+1]?=some o2:=by
 refine ⟨?_,?_,?_⟩
 ·rw [Below.heap_alloc _ _ _ (by first | (simp;done) | (simp;omega)),Below.heap_alloc _ _ _ (by first | (simp;done) | (simp;omega))];exact Ad w o0
 ·rw [Below.heap_alloc _ _ _ (by first | (simp;done) | (simp;omega))];simpa using Ad (w.alloc o0) o1
 ·simpa using Ad ((w.alloc o0).alloc o1) o2
theorem Af {w:World}{k:Nat}{o:Obj} (h:w.heap[k]?=some o) (o':Obj):(w.alloc o').heap[k]?=some o:=(Below.heap_alloc w o' k (lt_of_block h)).trans h
end Go.Proofs.YtcefiamkoincoaaGreat
namespace Go.Proofs.YtcefiamkoincoaaGreat.Tr
def Ok (l:List Int):Prop:=0 < l.length∧l.getD 0 0 = -1∧∀ i,0 < i→i < l.length→0≤l.getD i 0∧l.getD i 0 < (i:Int)
def itr (l:List Int):Nat→Int→Int
 | 0,a=>a
 | k+1,a=>itr l k (ov l a)
theorem Yn (l:List Int) (i j:Nat) (a:Int):itr l (i+j) a=itr l j (itr l i a):=by
 induction i generalizing a with
 | zero=>simp [itr]
 | succ k ih=>rw [show k+1+j=(k+j)+1 by omega];simp [itr,ih]
theorem Uj (l:List Int) (a:Int) (h:a < 0):ov l a = -1:=by simp [ov,h]
theorem Rj (l:List Int) (k:Nat):itr l k (-1) = -1:=by
 induction k with
 | zero=>rfl
 | succ j ih=>simp [itr,Uj l (-1) (by omega),ih]
theorem Jf {l:List Int} (h:Ok l) {a:Int} (ha:0≤a):ov l a < a∧-1≤ov l a:=by
 unfold ov;rw [if_neg (by omega)]
 split
 ·omega
 ·by_cases h0:a.toNat=0
  ·rw [h0,h.2.1];omega
  ·have:=h.2.2 a.toNat (by omega) (by omega);omega
theorem In {l:List Int} (h:Ok l) {a:Int} (ha:0 < a) (hl:a < (l.length:Int)):0≤ov l a:=by
 unfold ov;rw [if_neg (by omega),if_neg (by omega)];exact (h.2.2 a.toNat (by omega) (by omega)).1
theorem Ow {l:List Int} (h:Ok l) (m:Nat) (a:Int) (hr:0≤itr l m a):itr l m a+(m:Int)≤a:=by
 induction m generalizing a with
 | zero=>simp [itr]
 | succ k ih =>
  simp only [itr] at hr ⊢;have h1:=ih (ov l a) hr;by_cases ha:0≤a
  ·have:=Jf h ha;omega
  ·rw [Uj l a (by omega),Rj] at hr;omega
theorem Xg (l:List Int) (high:Int) (n:Nat) (pos:Int) (hh:0≤high):upTo l high n pos=true↔∃ j,j < n∧itr l j pos=high:=by
 induction n generalizing pos with
 | zero=>simp [upTo]
 | succ k ih =>
  unfold upTo;by_cases h1:pos = -1
  ·rw [if_pos h1]
   constructor
   ·intro h;cases h
   ·rintro ⟨j,_,hj⟩;rw [h1,Rj] at hj;omega
  ·rw [if_neg h1];by_cases h2:pos=high
   ·rw [if_pos h2];exact ⟨fun _=>⟨0,by omega,h2⟩,fun _=>rfl⟩
   ·rw [if_neg h2,ih]
    constructor
    ·rintro ⟨j,hj,e⟩;exact ⟨j+1,by omega,e⟩
    ·rintro ⟨j,hj,e⟩;cases j with
     | zero=>exact absurd e h2
     | succ i=>exact ⟨i,by omega,e⟩
theorem Dq {l:List Int} (h:Ok l) {a b:Int} (hb:0≤b) (hl:a < (l.length:Int)):below l a b=true↔∃ j,itr l (j+1) a=b:=by
 unfold below;rw [Xg l b _ _ hb]
 constructor
 ·rintro ⟨j,_,e⟩;exact ⟨j,e⟩
 ·rintro ⟨j,e⟩;have:=Ow h (j+1) a (by omega);exact ⟨j,by omega,e⟩
theorem below_lt {l:List Int} (h:Ok l) {a b:Int} (hb:0≤b) (hl:a < (l.length:Int)) (hab:below l a b=true):b < a:=by
 obtain ⟨j,e⟩:=(Dq h hb hl).1 hab;have:=Ow h (j+1) a (by omega);omega
theorem Fd {l:List Int} (h:Ok l) {a b c:Int} (hb:0≤b) (hc:0≤c) (hl:a < (l.length:Int)) (h1:below l a b=true) (h2:below l b c=true):below l a c=true:=by
 have hba:=below_lt h hb hl h1;obtain ⟨i,e⟩:=(Dq h hb hl).1 h1;obtain ⟨j,f⟩:=(Dq h hc (by omega)).1 h2;refine (Dq h hc hl).2 ⟨i+1+j,?_⟩;rw [show i+1+j+1=(i+1)+(j+1) by omega,Yn,e,f]
theorem Gk {l:List Int} (h:Ok l) {a:Int} (ha:0 < a) (hl:a < (l.length:Int)):below l a (ov l a)=true :=
 (Dq h (In h ha hl) hl).2 ⟨0,rfl⟩
theorem Ts {l:List Int} (h:Ok l) (n:Nat):∀ {a:Int},a.toNat≤n→0 < a→a < (l.length:Int)→below l a 0=true:=by
 induction n with
 | zero=>intro a h1 h2 _;omega
 | succ k ih =>
  intro a h1 ha hl;have hu:=Gk h ha hl;have h3:=Jf h (show 0≤a by omega);have h4:=In h ha hl;by_cases h0:ov l a=0
  ·rw [h0] at hu;exact hu
  ·exact Fd h h4 (by omega) hl hu (ih (by omega) (by omega) (by omega))
theorem Ma {l:List Int} (h:Ok l) {a c:Int} (ha:0≤a) (hc:0≤c) (hl:a < (l.length:Int)) (hac:below l a c=true):c=ov l a∨below l (ov l a) c=true:=by
 obtain ⟨j,e⟩:=(Dq h hc hl).1 hac;have hov:=Jf h ha;cases j with
 | zero=>left;exact e.symm
 | succ i=>right;exact (Dq h hc (by omega)).2 ⟨i,e⟩
theorem fits_iff (l:List Int) (k n k' n':Int):fitsB l k n k' n'=true↔(k=k'∧n=n')∨k'=0∨(k'=3∧k=2)∨(k'=3∧k=3∧below l n n'=true):=by
 unfold fitsB;by_cases h1:k=k'∧n=n'
 ·rw [if_pos h1];simp [h1]
 ·rw [if_neg h1];by_cases h2:k'=0
  ·rw [if_pos h2];simp [h2]
  ·rw [if_neg h2];by_cases h3:k'=3
   ·rw [if_neg (by omega)];by_cases h4:k=2
    ·rw [if_pos h4];simp [h3,h4]
    ·rw [if_neg h4];by_cases h5:k=3
     ·rw [if_pos h5]
      constructor
      ·intro hb;exact .inr (.inr (.inr ⟨h3,h5,hb⟩))
      ·rintro (⟨a,b⟩ | a | ⟨a,b⟩ | ⟨a,b,c⟩)
       ·exact absurd ⟨a,b⟩ h1
       ·exact absurd a h2
       ·exact absurd b h4
       ·exact c
     ·rw [if_neg h5]
      constructor
      ·intro hb;cases hb
      ·rintro (⟨a,b⟩ | a | ⟨a,b⟩ | ⟨a,b,c⟩)
       ·exact absurd ⟨a,b⟩ h1
       ·exact absurd a h2
       ·exact absurd b h4
       ·exact absurd b h5
   ·rw [if_pos h3]
    constructor
    ·intro hb;cases hb
    ·rintro (⟨a,b⟩ | a | ⟨a,b⟩ | ⟨a,b,c⟩)
     ·exact absurd ⟨a,b⟩ h1
     ·exact absurd a h2
     ·exact absurd a h3
     ·exact absurd a h3
def Arg (l:List Int) (k n:Int):Prop:=(k=0∧n=0)∨(k=1∧n=0)∨(k=2∧n=0)∨(k=3∧0≤n∧n < (l.length:Int))∨(k=4∧0≤n∧n < 120)
theorem fits_refl (l:List Int) (k n:Int):fitsB l k n k n=true:=(fits_iff l k n k n).2 (.inl ⟨rfl,rfl⟩)
theorem fits_anti {l:List Int} (h:Ok l) {k n k' n':Int} (ha:Arg l k n) (hb:Arg l k' n') (h1:fitsB l k n k' n'=true) (h2:fitsB l k' n' k n=true):k=k'∧n=n':=by
 rcases (fits_iff ..).1 h1 with e | e | ⟨e1,e2⟩ | ⟨e1,e2,e3⟩
 ·exact e
 ·rcases (fits_iff ..).1 h2 with f | f | ⟨f1,f2⟩ | ⟨f1,f2,f3⟩
  ·exact ⟨f.1.symm,f.2.symm⟩
  ·unfold Arg at ha hb;omega
  ·omega
  ·omega
 ·rcases (fits_iff ..).1 h2 with f | f | ⟨f1,f2⟩ | ⟨f1,f2,f3⟩ <;> omega
 ·rcases (fits_iff ..).1 h2 with f | f | ⟨f1,f2⟩ | ⟨f1,f2,f3⟩
  ·exact ⟨f.1.symm,f.2.symm⟩
  ·omega
  ·omega
  ·have g1:=below_lt h (by unfold Arg at hb;omega) (by unfold Arg at ha;omega) e3;have g2:=below_lt h (by unfold Arg at ha;omega) (by unfold Arg at hb;omega) f3;omega
theorem fits_trans {l:List Int} (h:Ok l) {k n k' n' k2 n2:Int} (ha:Arg l k n) (hb:Arg l k' n') (hc:Arg l k2 n2) (h1:fitsB l k n k' n'=true) (h2:fitsB l k' n' k2 n2=true):fitsB l k n k2 n2=true:=by
 rcases (fits_iff ..).1 h2 with ⟨rfl,rfl⟩ | f | ⟨f1,f2⟩ | ⟨f1,f2,f3⟩
 ·exact h1
 ·exact (fits_iff ..).2 (.inr (.inl f))
 ·rcases (fits_iff ..).1 h1 with ⟨rfl,rfl⟩ | e | ⟨e1,e2⟩ | ⟨e1,e2,e3⟩
  ·exact h2
  ·omega
  ·omega
  ·omega
 ·rcases (fits_iff ..).1 h1 with ⟨rfl,rfl⟩ | e | ⟨e1,e2⟩ | ⟨e1,e2,e3⟩
  ·exact h2
  ·omega
  ·exact (fits_iff ..).2 (.inr (.inr (.inl ⟨f1,e2⟩)))
  ·refine (fits_iff ..).2 (.inr (.inr (.inr ⟨f1,e2,?_⟩)));exact Fd h (by unfold Arg at hb;omega) (by unfold Arg at hc;omega) (by unfold Arg at ha;omega) e3 f3
def At (l:List Int) (b a:Int):Prop:=a=b∨below l b a=true
theorem Qd {l:List Int} (h:Ok l) {b:Int} (hb:0≤b) (hbl:b < (l.length:Int)) (n:Nat):∀ {a:Int},0≤a→a < (l.length:Int)→a < (n:Int) →
  (0≤meetTo l b n a∧meetTo l b n a < (l.length:Int))∧At l a (meetTo l b n a)∧At l b (meetTo l b n a)∧∀ c,0≤c→At l a c→At l b c→At l (meetTo l b n a) c:=by
 induction n with
 | zero=>intro a h0 _ h2;omega
 | succ k ih =>
  intro a h0 hl hn;unfold meetTo;by_cases h1:a=b
  ·rw [if_pos h1];exact ⟨⟨h0,hl⟩,.inl rfl,.inl h1,fun c _ hc _=>hc⟩
  ·rw [if_neg h1];by_cases h2:below l b a=true
   ·rw [if_pos h2];exact ⟨⟨h0,hl⟩,.inl rfl,.inr h2,fun c _ hc _=>hc⟩
   ·rw [if_neg h2];have hz:0 < a:=by
     rcases Int.lt_or_le 0 a with g | g
     ·exact g
     ·exfalso
      have ea:a=0:=by omega
      subst ea;exact h2 (Ts h b.toNat (Nat.le_refl _) (by omega) hbl)
    have u1:=Jf h h0;have u2:=In h hz hl;obtain ⟨g1,g2,g3,g4⟩:=ih u2 (by omega) (by omega);refine ⟨g1,?_,g3,?_⟩
    ·rcases g2 with g | g
     ·right;rw [g];exact Gk h hz hl
     ·right;exact Fd h u2 g1.1 hl (Gk h hz hl) g
    ·intro c hc ca cb;refine g4 c hc ?_ cb;rcases ca with ca | ca
     ·subst ca;rcases cb with cb | cb
      ·exact absurd cb h1
      ·exact absurd cb h2
     ·rcases Ma h h0 hc hl ca with e | e
      ·exact .inl e
      ·exact .inr e
theorem Vg {l:List Int} (h:Ok l) {a b:Int} (ha:0≤a) (hal:a < (l.length:Int)) (hb:0≤b) (hbl:b < (l.length:Int)) :
  (0≤meet l a b∧meet l a b < (l.length:Int))∧At l a (meet l a b)∧At l b (meet l a b)∧∀ c,0≤c→At l a c→At l b c→At l (meet l a b) c :=
 Qd h hb hbl l.length ha hal hal
theorem Gv {l:List Int}{a b:Int}:fitsB l 3 a 3 b=true↔At l a b:=by
 rw [fits_iff];unfold At
 constructor
 ·rintro (⟨_,e⟩ | e | ⟨_,e⟩ | ⟨_,_,e⟩)
  ·exact .inl e.symm
  ·omega
  ·omega
  ·exact .inr e
 ·rintro (e | e)
  ·exact .inl ⟨rfl,e.symm⟩
  ·exact .inr (.inr (.inr ⟨rfl,rfl,e⟩))
theorem join_spec {l:List Int} (h:Ok l) {k n k' n':Int} (ha:Arg l k n) (hb:Arg l k' n') :
  Arg l (joinT l (k,n) (k',n')).1 (joinT l (k,n) (k',n')).2 ∧
  fitsB l k n (joinT l (k,n) (k',n')).1 (joinT l (k,n) (k',n')).2=true∧fitsB l k' n' (joinT l (k,n) (k',n')).1 (joinT l (k,n) (k',n')).2=true ∧
  ∀ k2 n2,Arg l k2 n2→fitsB l k n k2 n2=true→fitsB l k' n' k2 n2=true→fitsB l (joinT l (k,n) (k',n')).1 (joinT l (k,n) (k',n')).2 k2 n2=true:=by
 unfold joinT;dsimp only;by_cases h1:fitsB l k n k' n'=true
 ·rw [if_pos h1];exact ⟨hb,h1,fits_refl _ _ _,fun _ _ _ _ g=>g⟩
 ·rw [if_neg h1];by_cases h2:fitsB l k' n' k n=true
  ·rw [if_pos h2];exact ⟨ha,fits_refl _ _ _,h2,fun _ _ _ g _=>g⟩
  ·rw [if_neg h2];have top:∀ k n,fitsB l k n 0 0=true:=fun k n=>(fits_iff ..).2 (.inr (.inl rfl));by_cases hk:k=3
   ·rw [if_neg (by omega)];by_cases hk':k'=3
    ·rw [if_neg (by omega)];subst hk hk';obtain ⟨g1,g2,g3,g4⟩:=Vg h (a:=n) (b:=n') (by unfold Arg at ha;omega) (by unfold Arg at ha;omega) (by unfold Arg at hb;omega) (by unfold Arg at hb;omega);refine ⟨.inr (.inr (.inr (.inl ⟨rfl,g1.1,g1.2⟩))),Gv.2 g2,Gv.2 g3,?_⟩;intro k2 n2 hc c1 c2;rcases (fits_iff ..).1 c1 with ⟨rfl,rfl⟩ | e | ⟨e1,e2⟩ | ⟨rfl,e2,e3⟩
     ·exact absurd c2 h2
     ·subst e;exact (fits_iff ..).2 (.inr (.inl rfl))
     ·omega
     ·exact Gv.2 (g4 n2 (by unfold Arg at hc;omega) (Gv.1 c1) (Gv.1 c2))
    ·rw [if_pos hk'];refine ⟨.inl ⟨rfl,rfl⟩,top _ _,top _ _,?_⟩;intro k2 n2 hc c1 c2;rcases (fits_iff ..).1 c2 with ⟨rfl,rfl⟩ | e | ⟨e1,e2⟩ | ⟨e1,e2,e3⟩
     ·exact absurd c1 h1
     ·subst e;exact (fits_iff ..).2 (.inr (.inl rfl))
     ·exact absurd ((fits_iff l k' n' k n).2 (.inr (.inr (.inl ⟨hk,e2⟩)))) h2
     ·omega
   ·rw [if_pos hk];refine ⟨.inl ⟨rfl,rfl⟩,top _ _,top _ _,?_⟩;intro k2 n2 hc c1 c2;rcases (fits_iff ..).1 c1 with ⟨rfl,rfl⟩ | e | ⟨e1,e2⟩ | ⟨e1,e2,e3⟩
    ·exact absurd c2 h2
    ·subst e;exact (fits_iff ..).2 (.inr (.inl rfl))
    ·rcases (fits_iff ..).1 c2 with ⟨rfl,rfl⟩ | f | ⟨f1,f2⟩ | ⟨f1,f2,f3⟩
     ·exact absurd c1 h1
     ·omega
     ·exfalso
      unfold Arg at ha hb;exact h1 ((fits_iff l k n k' n').2 (.inl ⟨by omega,by omega⟩))
     ·exact absurd ((fits_iff l k n k' n').2 (.inr (.inr (.inl ⟨f2,e2⟩)))) h1
    ·omega
end Go.Proofs.YtcefiamkoincoaaGreat.Tr
namespace Go.Proofs.YtcefiamkoincoaaGreat.Rf
open Go.Proofs.YtcefiamkoincoaaGreat (Rd.St Rd.nx Rd.cn Rd.ex Rd.ty Rd.tys Rd.cls Rd.codes Rd.hnd Rd.hnds Rd.mp Rd.mps Rd.mth Rd.fil)
def at' (s:List UInt8) (i:Int):Int:=if i < 0 then -1 else if (s.length:Int)≤i then -1 else ((s[i.toNat]?.getD 0).toNat:Int)
def cnt (s:List UInt8) (i least most:Int):Int:=if at' s i < least then -1 else if most < at' s i then -1 else at' s i
def rep {α:Type} (f:Int→α × Int):Nat→Int→List α × Int
 | 0,i=>([],i)
 | k+1,i=>if (rep f k i).2 < 0 then ([],-1) else if (f (rep f k i).2).2 < 0 then ([],-1) else ((rep f k i).1 ++ [(f (rep f k i).2).1],(f (rep f k i).2).2)
def ty (s:List UInt8) (i:Int):(Int × Int) × Int:=((at' s i,at' s (i+1)),i+2)
def tys (s:List UInt8) (i:Int):Nat→List (Int × Int)
 | 0=>[]
 | k+1=>tys s i k ++ [(at' s (i+2 * (k:Int)),at' s (i+2 * (k:Int)+1))]
def cls (s:List UInt8) (i:Int):Rd.Cls × Int :=
 if cnt s (i+1) 0 4 < 0 then (⟨0,[]⟩,-1) else (⟨at' s i,tys s (i+2) (cnt s (i+1) 0 4).toNat⟩,i+2+2 * cnt s (i+1) 0 4)
def hndAt (s:List UInt8) (i:Int):Rd.Hnd:=⟨at' s i,at' s (i+1),at' s (i+2),at' s (i+3)⟩
def hndTo (s:List UInt8) (i:Int):Nat→List Rd.Hnd
 | 0=>[]
 | k+1=>hndTo s i k ++ [hndAt s (i+1+4 * (k:Int))]
def hnds (s:List UInt8) (i:Int):List Rd.Hnd × Int :=
 if cnt s i 0 4 < 0 then ([],-1) else if (s.length:Int) < i+1+4 * cnt s i 0 4 then ([],-1) else (hndTo s i (cnt s i 0 4).toNat,i+1+4 * cnt s i 0 4)
def mp (s:List UInt8) (L H i:Int):Rd.Mp × Int :=
 if cnt s (i+1+2 * L) 0 H < 0 then (⟨0,[],[]⟩,-1)
 else (⟨at' s i,tys s (i+1) L.toNat,tys s (i+2+2 * L) (cnt s (i+1+2 * L) 0 H).toNat⟩,i+2+2 * L+2 * cnt s (i+1+2 * L) 0 H)
def mps (s:List UInt8) (i L H:Int):List Rd.Mp × Int :=
 if cnt s i 0 64 < 0 then ([],-1) else rep (mp s L H) (cnt s i 0 64).toNat (i+1)
def codeTo (s:List UInt8) (i:Int):Nat→List Int
 | 0=>[]
 | k+1=>codeTo s i k ++ [at' s (i+(k:Int))]
structure Mth where
 m:Rd.Mth
 mapsAt:Int
 fin:Int
def mth (s:List UInt8) (i:Int):Mth × Int :=
 let p:=cnt s (i+2) 0 4
 if p < 0 then (⟨⟨0,0,[],(0,0),0,0,[],[],[]⟩,0,0⟩,-1)
 else
  let j:=i+3+2 * p
  let l:=cnt s (j+2) 0 8
  let h:=cnt s (j+3) 0 8
  let n:=cnt s (j+4) 1 120
  if l < 0 then (⟨⟨0,0,[],(0,0),0,0,[],[],[]⟩,0,0⟩,-1)
  else if h < 0 then (⟨⟨0,0,[],(0,0),0,0,[],[],[]⟩,0,0⟩,-1)
  else if n < 0 then (⟨⟨0,0,[],(0,0),0,0,[],[],[]⟩,0,0⟩,-1)
  else if (s.length:Int) < j+5+n then (⟨⟨0,0,[],(0,0),0,0,[],[],[]⟩,0,0⟩,-1)
  else
   let hs:=hnds s (j+5+n)
   if hs.2 < 0 then (⟨⟨0,0,[],(0,0),0,0,[],[],[]⟩,0,0⟩,-1)
   else
    let ms:=mps s hs.2 l h
    (⟨⟨at' s i,at' s (i+1),tys s (i+3) p.toNat,(at' s j,at' s (j+1)),l,h,codeTo s (j+5) n.toNat,hs.1,ms.1⟩,hs.2,ms.2⟩,ms.2)
def fil (s:List UInt8):List Rd.Cls × List Mth × Int :=
 if at' s 0 ≠ 83 then ([],[],-1)
 else if at' s 1 ≠ 77 then ([],[],-1)
 else if cnt s 2 0 6 < 0 then ([],[],-1)
 else
  let cs:=rep (cls s) (cnt s 2 0 6).toNat 3
  if cs.2 < 0 then ([],[],-1)
  else if cnt s cs.2 1 6 < 0 then ([],[],-1)
  else
   let ms:=rep (mth s) (cnt s cs.2 1 6).toNat (cs.2+1)
   if ms.2 < 0 then ([],[],-1) else (cs.1,ms.1,ms.2)
def Lnk {α β:Type} (g:β→α) (n:Nat) (r:α × Rd.St) (x:β × Int):Prop :=
 (0≤x.2∧x.2≤(n:Int)∧r.1=g x.1∧r.2=⟨x.2.toNat,false⟩)∨((x.2 < 0∨(n:Int) < x.2)∧r.2.bad=true)
theorem Hw {s:List UInt8}{i:Int} (h0:0≤i) (h1:i < (s.length:Int)):Rd.nx s ⟨i.toNat,false⟩=(at' s i,⟨(i+1).toNat,false⟩):=by
 unfold Rd.nx at';rw [if_neg (by simp),if_neg (by simp only;omega),if_neg (by omega),if_neg (by omega)];rw [show (i+1).toNat=i.toNat+1 by omega]
theorem at_out {s:List UInt8}{i:Int} (h1:(s.length:Int)≤i):at' s i = -1:=by
 unfold at'
 split
 ·rfl
 ·rfl
theorem Hn {s:List UInt8}{i:Int} (h1:(s.length:Int)≤i):Rd.nx s ⟨i.toNat,false⟩=(0,⟨i.toNat,true⟩):=by
 unfold Rd.nx;rw [if_neg (by simp),if_pos (by simp only;omega)]
theorem at_bd (s:List UInt8) (i:Int):-1≤at' s i∧at' s i≤255:=by
 unfold at'
 split
 ·omega
 ·split
  ·omega
  ·have:=(s[i.toNat]?.getD 0).toNat_lt;omega
theorem cnt_bd (s:List UInt8) (i a b:Int) (hb:-1≤b):-1≤cnt s i a b∧cnt s i a b≤b:=by
 have:=at_bd s i;unfold cnt
 split
 ·omega
 ·split <;> omega
theorem Ci {s:List UInt8}{i a b:Int} (h:(s.length:Int)≤i) (ha:0≤a):cnt s i a b = -1:=by
 unfold cnt;rw [at_out h,if_pos (by omega)]
theorem Bg (s:List UInt8) (p:Nat):(Rd.nx s ⟨p,true⟩).2.bad=true:=by simp [Rd.nx]
theorem Aq (t:Rd.St) (h:t.bad=true):∃ p,t=⟨p,true⟩:=⟨t.pos,by cases t;simp_all⟩
theorem Dz {s:List UInt8}{i:Int} (h0:0≤i) (h1:i≤(s.length:Int)):Lnk id s.length (Rd.nx s ⟨i.toNat,false⟩) (at' s i,i+1):=by
 by_cases h:i < (s.length:Int)
 ·left
  rw [Hw h0 h];exact ⟨by simp only;omega,by simp only;omega,rfl,rfl⟩
 ·right
  rw [Hn (by omega)];exact ⟨.inr (by simp only;omega),rfl⟩
theorem Dy {s:List UInt8}{i a b:Int} (h0:0≤i) (h1:i≤(s.length:Int)) (ha:0≤a) :
  (0≤cnt s i a b∧i < (s.length:Int)∧Rd.cn s a b ⟨i.toNat,false⟩=(cnt s i a b,⟨(i+1).toNat,false⟩))∨(cnt s i a b < 0∧(Rd.cn s a b ⟨i.toNat,false⟩).2.bad=true):=by
 by_cases h:i < (s.length:Int)
 ·have hb:=at_bd s i;have ha0:0≤at' s i:=by unfold at';rw [if_neg (by omega),if_neg (by omega)];omega
  unfold Rd.cn cnt;rw [Hw h0 h];by_cases c1:at' s i < a
  ·right;rw [if_pos c1,if_pos c1];exact ⟨by omega,rfl⟩
  ·rw [if_neg c1,if_neg c1];by_cases c2:b < at' s i
   ·right;rw [if_pos c2,if_pos c2];exact ⟨by omega,rfl⟩
   ·left;rw [if_neg c2,if_neg c2];exact ⟨ha0,h,rfl⟩
 ·right
  refine ⟨by rw [Ci (by omega) ha];omega,?_⟩;unfold Rd.cn;rw [Hn (by omega)]
  split
  ·rfl
  ·split <;> rfl
theorem Bq (s:List UInt8) (a b:Int) (p:Nat):(Rd.cn s a b ⟨p,true⟩).2.bad=true:=by
 unfold Rd.cn
 split
 ·rfl
 ·split
  ·rfl
  ·exact Bg s p
theorem Ga {α β:Type}{g:β→α}{n:Nat}{f:Rd.St→α × Rd.St}{F:Int→β × Int} (H1:∀ i:Int,0≤i→i≤(n:Int)→Lnk g n (f ⟨i.toNat,false⟩) (F i))
  (H2:∀ p,(f ⟨p,true⟩).2.bad=true) (H3:∀ i:Int,(n:Int) < i→(F i).2 < 0∨(n:Int) < (F i).2) (k:Nat) (i:Int) (h0:0≤i) (h1:i≤(n:Int)) :
  Lnk (List.map g) n (Rd.rep f k ⟨i.toNat,false⟩) (rep F k i):=by
 induction k with
 | zero=>left;exact ⟨h0,h1,rfl,rfl⟩
 | succ k ih =>
  unfold Rd.rep rep;rcases ih with ⟨a0,a1,a2,a3⟩ | ⟨b0,b1⟩
  ·rw [if_neg (by omega),a2,a3];rcases H1 _ a0 a1 with ⟨c0,c1,c2,c3⟩ | ⟨d0,d1⟩
   ·left
    rw [if_neg (by omega)];exact ⟨c0,c1,by simp [c2],c3⟩
   ·right
    refine ⟨?_,d1⟩
    split
    ·left;simp
    ·exact d0
  ·right
   refine ⟨?_,?_⟩
   ·split
    ·left;simp
    ·split
     ·left;simp
     ·rcases b0 with b0 | b0
      ·omega
      ·rcases H3 _ b0 with e | e
       ·omega
       ·right;exact e
   ·obtain ⟨p,hp⟩:=Aq _ b1;rw [hp];exact H2 p
theorem Dg {α:Type}{f:Rd.St→α × Rd.St} (H2:∀ p,(f ⟨p,true⟩).2.bad=true) (k:Nat) (p:Nat):(Rd.rep f k ⟨p,true⟩).2.bad=true:=by
 induction k with
 | zero=>rfl
 | succ k ih =>
  unfold Rd.rep;obtain ⟨q,hq⟩:=Aq _ ih;simp only;rw [hq];exact H2 q
end Go.Proofs.YtcefiamkoincoaaGreat.Rf
namespace Go.Proofs.YtcefiamkoincoaaGreat.Rf
theorem Lb (s:List UInt8) (p:Nat):(Rd.ty s ⟨p,true⟩).2.bad=true:=by
 unfold Rd.ty;obtain ⟨q,hq⟩:=Aq _ (Bg s p);simp only;rw [hq];exact Bg s q
theorem Uq {s:List UInt8}{i:Int} (h0:0≤i) (h1:i≤(s.length:Int)):Lnk id s.length (Rd.ty s ⟨i.toNat,false⟩) (ty s i):=by
 unfold Rd.ty ty;rcases Dz h0 h1 with ⟨_,a1,a2,a3⟩ | ⟨b0,b1⟩
 ·simp only at a1 a2 a3;rw [a2,a3];rcases Dz (s:=s) (i:=i+1) (by omega) a1 with ⟨_,c1,c2,c3⟩ | ⟨d0,d1⟩
  ·simp only at c1 c2 c3
   left
   exact ⟨by simp only;omega,by simp only;omega,by simp only [c2,id_eq],by simp only [c3];rw [show i+1+1=i+2 by omega]⟩
  ·simp only at d0
   right
   exact ⟨.inr (by simp only;omega),d1⟩
 ·simp only at b0;obtain ⟨q,hq⟩:=Aq _ b1
  right
  refine ⟨.inr (by simp only;omega),?_⟩;simp only;rw [hq];exact Bg s q
theorem rep_step {α:Type}{f:Int→α × Int}{k:Nat}{i j j':Int}{l:List α}{x:α} (h:rep f k i=(l,j)) (hj:0≤j) (hf:f j=(x,j')) (hj':0≤j'):rep f (k+1) i=(l ++ [x],j'):=by
 unfold rep;rw [h];show (if j < 0 then ([],-1) else if (f j).2 < 0 then ([],-1) else (l ++ [(f j).1],(f j).2))=_
 rw [if_neg (by omega),hf];exact if_neg (by simp only;omega)
theorem Zn (s:List UInt8) (k:Nat) (i:Int) (h0:0≤i):rep (ty s) k i=(tys s i k,i+2 * (k:Int)):=by
 induction k with
 | zero=>simp [rep,tys]
 | succ k ih =>
  rw [rep_step ih (by omega) rfl (by omega)];refine Prod.ext rfl ?_;simp only;omega
theorem Cq (s:List UInt8) (k p:Nat):(Rd.tys s k ⟨p,true⟩).2.bad=true:=Dg (Lb s) k p
theorem Jg {s:List UInt8}{i:Int} (k:Nat) (h0:0≤i) (h1:i≤(s.length:Int)):Lnk id s.length (Rd.tys s k ⟨i.toNat,false⟩) (tys s i k,i+2 * (k:Int)):=by
 have h:=Ga (g:=id) (fun i a b=>Uq (s:=s) a b) (Lb s) (fun i hi=>.inr (by simp only [ty];omega)) k i h0 h1;rw [Zn s k i h0] at h;unfold Rd.tys
 simpa [Lnk] using h
theorem Ri (s:List UInt8) (p:Nat):(Rd.cls s ⟨p,true⟩).2.bad=true:=by
 unfold Rd.cls;obtain ⟨q,hq⟩:=Aq _ (Bg s p);obtain ⟨q2,hq2⟩:=Aq _ (Bq s 0 4 q);simp only;rw [hq,hq2];exact Cq s _ q2
theorem Ym (s:List UInt8) (i:Int) (h:(s.length:Int) < i):(cls s i).2 < 0:=by
 unfold cls;rw [Ci (by omega) (by omega),if_pos (by omega)]
 decide
theorem Yy {s:List UInt8}{i:Int} (h0:0≤i) (h1:i≤(s.length:Int)):Lnk id s.length (Rd.cls s ⟨i.toNat,false⟩) (cls s i):=by
 unfold Rd.cls cls;rcases Dz h0 h1 with ⟨_,a1,a2,a3⟩ | ⟨b0,b1⟩
 ·simp only at a1 a2 a3;simp only;rw [a2,a3];rcases Dy (s:=s) (i:=i+1) (a:=0) (b:=4) (by omega) a1 (by omega) with ⟨c0,c1,c2⟩ | ⟨d0,d1⟩
  ·rw [if_neg (by omega),c2];simp only;rcases Jg (s:=s) (i:=i+1+1) (cnt s (i+1) 0 4).toNat (by omega) (by omega) with ⟨_,e1,e2,e3⟩ | ⟨f0,f1⟩
   ·simp only at e1 e2 e3
    left
    rw [show i+1+1=i+2 by omega] at *;refine ⟨by simp only;omega,by simp only;omega,?_,?_⟩
    ·simp only [e2,id_eq]
    ·rw [e3];simp only;congr 2;omega
   ·simp only at f0
    right
    exact ⟨.inr (by simp only;omega),f1⟩
  ·rw [if_pos d0]
   right
   obtain ⟨q,hq⟩:=Aq _ d1;simp only;rw [hq];exact ⟨.inl (by decide),Cq s _ q⟩
 ·simp only at b0;rw [Ci (by omega) (by omega),if_pos (by omega)]
  right
  obtain ⟨q,hq⟩:=Aq _ b1;obtain ⟨q2,hq2⟩:=Aq _ (Bq s 0 4 q);simp only;rw [hq,hq2];exact ⟨.inl (by decide),Cq s _ q2⟩
theorem W8 (s:List UInt8) (k:Nat) (i:Int) (h0:0≤i):rep (fun i=>(at' s i,i+1)) k i=(codeTo s i k,i+(k:Int)):=by
 induction k with
 | zero=>simp [rep,codeTo]
 | succ k ih =>
  rw [rep_step ih (by omega) rfl (by omega)];refine Prod.ext rfl ?_;simp only;omega
theorem Wz {s:List UInt8}{i:Int} (k:Nat) (h0:0≤i) (h1:i≤(s.length:Int)):Lnk id s.length (Rd.rep (Rd.nx s) k ⟨i.toNat,false⟩) (codeTo s i k,i+(k:Int)):=by
 have h:=Ga (g:=id) (F:=fun i=>(at' s i,i+1)) (fun i a b=>Dz (s:=s) a b) (Bg s) (fun i hi=>.inr (by simp only;omega)) k i h0 h1;rw [W8 s k i h0] at h
 simpa [Lnk] using h
theorem Mq (s:List UInt8) (p:Nat):(Rd.hnd s ⟨p,true⟩).2.bad=true:=by
 unfold Rd.hnd;obtain ⟨q,hq⟩:=Aq _ (Bg s p);obtain ⟨q2,hq2⟩:=Aq _ (Bg s q);obtain ⟨q3,hq3⟩:=Aq _ (Bg s q2);simp only;rw [hq,hq2,hq3];exact Bg s q3
theorem Yk {s:List UInt8}{i:Int} (h0:0≤i) (h1:i≤(s.length:Int)):Lnk id s.length (Rd.hnd s ⟨i.toNat,false⟩) (hndAt s i,i+4):=by
 by_cases h:i+4≤(s.length:Int)
 ·left
  unfold Rd.hnd hndAt;simp only;rw [Hw h0 (by omega),Hw (by omega) (by omega),Hw (by omega) (by omega),Hw (by omega) (by omega)];refine ⟨by omega,h,?_,?_⟩
  ·simp only [id_eq,show i+1+1=i+2 by omega,show i+2+1=i+3 by omega]
  ·simp only;congr 2;omega
 ·right
  refine ⟨.inr (by simp only;omega),?_⟩;unfold Rd.hnd;simp only;rcases Dz h0 h1 with ⟨_,a1,_,a3⟩ | ⟨_,b1⟩
  ·simp only at a1 a3;rw [a3];rcases Dz (s:=s) (i:=i+1) (by omega) a1 with ⟨_,c1,_,c3⟩ | ⟨_,d1⟩
   ·simp only at c1 c3;rw [c3];rcases Dz (s:=s) (i:=i+1+1) (by omega) c1 with ⟨_,e1,_,e3⟩ | ⟨_,f1⟩
    ·simp only at e1 e3;rw [e3,Hn (by omega)]
    ·obtain ⟨q,hq⟩:=Aq _ f1;rw [hq];exact Bg s q
   ·obtain ⟨q,hq⟩:=Aq _ d1;obtain ⟨q2,hq2⟩:=Aq _ (Bg s q);rw [hq,hq2];exact Bg s q2
  ·obtain ⟨q,hq⟩:=Aq _ b1;obtain ⟨q2,hq2⟩:=Aq _ (Bg s q);obtain ⟨q3,hq3⟩:=Aq _ (Bg s q2);rw [hq,hq2,hq3];exact Bg s q3
theorem Zj (s:List UInt8) (k:Nat) (i:Int) (h0:0≤i):rep (fun i=>(hndAt s i,i+4)) k (i+1)=(hndTo s i k,i+1+4 * (k:Int)):=by
 induction k with
 | zero=>simp [rep,hndTo]
 | succ k ih =>
  rw [rep_step ih (by omega) rfl (by omega)];refine Prod.ext rfl ?_;simp only;omega
theorem Pa (s:List UInt8) (p:Nat):(Rd.hnds s ⟨p,true⟩).2.bad=true:=by
 unfold Rd.hnds;obtain ⟨q,hq⟩:=Aq _ (Bq s 0 4 p);simp only;rw [hq];exact Dg (Mq s) _ q
theorem Xf {s:List UInt8}{i:Int} (h0:0≤i) (h1:i≤(s.length:Int)):Lnk id s.length (Rd.hnds s ⟨i.toNat,false⟩) (hnds s i):=by
 unfold Rd.hnds hnds;rcases Dy (s:=s) (i:=i) (a:=0) (b:=4) h0 h1 (by omega) with ⟨c0,c1,c2⟩ | ⟨d0,d1⟩
 ·rw [if_neg (by omega),c2];simp only;have h:=Ga (g:=id) (F:=fun i=>(hndAt s i,i+4)) (fun i a b=>Yk (s:=s) a b) (Mq s) (fun i hi=>.inr (by simp only;omega)) (cnt s i 0 4).toNat (i+1) (by omega) (by omega);rw [Zj s _ i h0] at h;rcases h with ⟨_,e1,e2,e3⟩ | ⟨f0,f1⟩
  ·simp only at e1 e2 e3
   left
   rw [if_neg (by omega)];refine ⟨by simp only;omega,by simp only;omega,?_,?_⟩
   ·simp only [e2,id_eq,List.map_id_fun]
   ·rw [e3];simp only;congr 2;omega
  ·simp only at f0
   right
   rw [if_pos (by omega)];exact ⟨.inl (by decide),f1⟩
 ·rw [if_pos d0]
  right
  obtain ⟨q,hq⟩:=Aq _ d1;simp only;rw [hq];exact ⟨.inl (by decide),Dg (Mq s) _ q⟩
theorem Ot (s:List UInt8) (L H:Int) (p:Nat):(Rd.mp s L H ⟨p,true⟩).2.bad=true:=by
 unfold Rd.mp;obtain ⟨q,hq⟩:=Aq _ (Bg s p);obtain ⟨q2,hq2⟩:=Aq _ (Cq s L.toNat q);obtain ⟨q3,hq3⟩:=Aq _ (Bq s 0 H q2);simp only;rw [hq,hq2,hq3];exact Cq s _ q3
theorem Aao {s:List UInt8}{L H i:Int} (hL:0≤L) (h0:0≤i) (h1:i≤(s.length:Int)):Lnk id s.length (Rd.mp s L H ⟨i.toNat,false⟩) (mp s L H i):=by
 unfold Rd.mp mp;rcases Dz h0 h1 with ⟨_,a1,a2,a3⟩ | ⟨b0,b1⟩
 ·simp only at a1 a2 a3;simp only;rw [a2,a3];rcases Jg (s:=s) (i:=i+1) L.toNat (by omega) a1 with ⟨_,e1,e2,e3⟩ | ⟨f0,f1⟩
  ·simp only at e1 e2 e3;rw [e2,e3];have el:i+1+2 * ((L.toNat:Nat):Int)=i+1+2 * L:=by omega
   rw [el] at e1 ⊢;rcases Dy (s:=s) (i:=i+1+2 * L) (a:=0) (b:=H) (by omega) e1 (by omega) with ⟨c0,c1,c2⟩ | ⟨d0,d1⟩
   ·rw [if_neg (by omega),c2];simp only;rcases Jg (s:=s) (i:=i+1+2 * L+1) (cnt s (i+1+2 * L) 0 H).toNat (by omega) (by omega) with ⟨_,g1,g2,g3⟩ | ⟨k0,k1⟩
    ·simp only at g1 g2 g3
     left
     have er:i+1+2 * L+1=i+2+2 * L:=by omega
     rw [er] at g1 g2 g3 ⊢;refine ⟨by simp only;omega,by simp only;omega,?_,?_⟩
     ·simp only [g2,id_eq]
     ·rw [g3];simp only;congr 2;omega
    ·simp only at k0
     right
     exact ⟨.inr (by simp only;omega),k1⟩
   ·rw [if_pos d0]
    right
    obtain ⟨q,hq⟩:=Aq _ d1;simp only;rw [hq];exact ⟨.inl (by decide),Cq s _ q⟩
  ·simp only at f0;rw [Ci (by omega) (by omega),if_pos (by omega)]
   right
   obtain ⟨q,hq⟩:=Aq _ f1;obtain ⟨q2,hq2⟩:=Aq _ (Bq s 0 H q);simp only;rw [hq,hq2];exact ⟨.inl (by decide),Cq s _ q2⟩
 ·simp only at b0;rw [Ci (by omega) (by omega),if_pos (by omega)]
  right
  obtain ⟨q,hq⟩:=Aq _ b1;obtain ⟨q1,hq1⟩:=Aq _ (Cq s L.toNat q);obtain ⟨q2,hq2⟩:=Aq _ (Bq s 0 H q1);simp only;rw [hq,hq1,hq2];exact ⟨.inl (by decide),Cq s _ q2⟩
theorem Rg (s:List UInt8) (L H:Int) (p:Nat):(Rd.mps s L H ⟨p,true⟩).2.bad=true:=by
 unfold Rd.mps;obtain ⟨q,hq⟩:=Aq _ (Bq s 0 64 p);simp only;rw [hq];exact Dg (Ot s L H) _ q
theorem Zf {s:List UInt8}{L H i:Int} (hL:0≤L) (h0:0≤i) (h1:i≤(s.length:Int)):Lnk id s.length (Rd.mps s L H ⟨i.toNat,false⟩) (mps s i L H):=by
 unfold Rd.mps mps;rcases Dy (s:=s) (i:=i) (a:=0) (b:=64) h0 h1 (by omega) with ⟨c0,c1,c2⟩ | ⟨d0,d1⟩
 ·rw [if_neg (by omega),c2];simp only;have h:=Ga (g:=id) (fun i a b=>Aao (s:=s) (H:=H) hL a b) (Ot s L H) (fun i hi=>.inl (by unfold mp;rw [Ci (by omega) (by omega),if_pos (by omega)];decide)) (cnt s i 0 64).toNat (i+1) (by omega) (by omega)
  simpa [Lnk] using h
 ·rw [if_pos d0]
  right
  obtain ⟨q,hq⟩:=Aq _ d1;simp only;rw [hq];exact ⟨.inl (by decide),Dg (Ot s L H) _ q⟩
theorem Rh (s:List UInt8) (p:Nat):(Rd.mth s ⟨p,true⟩).2.bad=true:=by
 unfold Rd.mth;obtain ⟨q1,h1⟩:=Aq _ (Bg s p);obtain ⟨q2,h2⟩:=Aq _ (Bg s q1);obtain ⟨q3,h3⟩:=Aq _ (Bq s 0 4 q2);obtain ⟨q5,h5⟩:=Aq _ (Cq s (Rd.cn s 0 4 ⟨q2,true⟩).1.toNat q3);obtain ⟨q6,h6⟩:=Aq _ (Lb s q5);obtain ⟨q7,h7⟩:=Aq _ (Bq s 0 8 q6);obtain ⟨q8,h8⟩:=Aq _ (Bq s 0 8 q7);obtain ⟨q9,h9⟩:=Aq _ (show (Rd.codes s ⟨q8,true⟩).2.bad=true by
  unfold Rd.codes;obtain ⟨q,hq⟩:=Aq _ (Bq s 1 120 q8);simp only;rw [hq];exact Dg (Bg s) _ q)
 obtain ⟨q10,h10⟩:=Aq _ (Pa s q9);simp only;rw [h1,h2,h3,h5,h6,h7,h8,h9,h10];exact Rg s _ _ q10
theorem Un (s:List UInt8) (p:Nat):(Rd.codes s ⟨p,true⟩).2.bad=true:=by
 unfold Rd.codes;obtain ⟨q,hq⟩:=Aq _ (Bq s 1 120 p);simp only;rw [hq];exact Dg (Bg s) _ q
def g10 (s:List UInt8) (l h:Int) (t:Rd.St):Rd.St:=(Rd.mps s l h t).2
def g9 (s:List UInt8) (l h:Int) (t:Rd.St):Rd.St:=g10 s l h (Rd.hnds s t).2
def g8 (s:List UInt8) (l h:Int) (t:Rd.St):Rd.St:=g9 s l h (Rd.codes s t).2
def g7 (s:List UInt8) (l:Int) (t:Rd.St):Rd.St:=g8 s l (Rd.cn s 0 8 t).1 (Rd.cn s 0 8 t).2
def g6 (s:List UInt8) (t:Rd.St):Rd.St:=g7 s (Rd.cn s 0 8 t).1 (Rd.cn s 0 8 t).2
def g5 (s:List UInt8) (t:Rd.St):Rd.St:=g6 s (Rd.ty s t).2
def g4 (s:List UInt8) (p:Int) (t:Rd.St):Rd.St:=g5 s (Rd.tys s p.toNat t).2
def g3 (s:List UInt8) (t:Rd.St):Rd.St:=g4 s (Rd.cn s 0 4 t).1 (Rd.cn s 0 4 t).2
def g2 (s:List UInt8) (t:Rd.St):Rd.St:=g3 s (Rd.nx s t).2
theorem Rz (s:List UInt8) (t:Rd.St):(Rd.mth s t).2=g2 s (Rd.nx s t).2:=by
 simp only [Rd.mth,g2,g3,g4,g5,g6,g7,g8,g9,g10]
theorem Rb {s:List UInt8}{l h:Int}{t:Rd.St} (ht:t.bad=true):(g10 s l h t).bad=true:=by
 obtain ⟨p,rfl⟩:=Aq t ht;exact Rg s l h p
theorem O8 {s:List UInt8}{l h:Int}{t:Rd.St} (ht:t.bad=true):(g9 s l h t).bad=true:=by
 obtain ⟨p,rfl⟩:=Aq t ht;exact Rb (Pa s p)
theorem Vq {s:List UInt8}{l h:Int}{t:Rd.St} (ht:t.bad=true):(g8 s l h t).bad=true:=by
 obtain ⟨p,rfl⟩:=Aq t ht;exact O8 (Un s p)
theorem Ui {s:List UInt8}{l:Int}{t:Rd.St} (ht:t.bad=true):(g7 s l t).bad=true:=by
 obtain ⟨p,rfl⟩:=Aq t ht;exact Vq (Bq s 0 8 p)
theorem Vd {s:List UInt8}{t:Rd.St} (ht:t.bad=true):(g6 s t).bad=true:=by
 obtain ⟨p,rfl⟩:=Aq t ht;exact Ui (Bq s 0 8 p)
theorem Vh {s:List UInt8}{t:Rd.St} (ht:t.bad=true):(g5 s t).bad=true:=by
 obtain ⟨p,rfl⟩:=Aq t ht;exact Vd (Lb s p)
theorem V5 {s:List UInt8}{p:Int}{t:Rd.St} (ht:t.bad=true):(g4 s p t).bad=true:=by
 obtain ⟨q,rfl⟩:=Aq t ht;exact Vh (Cq s _ q)
theorem Vb {s:List UInt8}{t:Rd.St} (ht:t.bad=true):(g3 s t).bad=true:=by
 obtain ⟨p,rfl⟩:=Aq t ht;exact V5 (Bq s 0 4 p)
theorem Zx {s:List UInt8}{t:Rd.St} (ht:t.bad=true):(g2 s t).bad=true:=by
 obtain ⟨p,rfl⟩:=Aq t ht;exact Vb (Bg s p)
theorem hnds_le (s:List UInt8) (i:Int):(hnds s i).2≤(s.length:Int):=by
 unfold hnds
 split
 ·simp only;omega
 ·split
  ·simp only;omega
  ·simp only;omega
theorem Yl {s:List UInt8}{i:Int} (h0:0≤i) (h1:i≤(s.length:Int)):Lnk Mth.m s.length (Rd.mth s ⟨i.toNat,false⟩) (mth s i):=by
 -- where the document's reader has nothing, it is enough that the program's is bad
 have no:∀ x:Mth × Int,x.2 < 0→(Rd.mth s ⟨i.toNat,false⟩).2.bad=true→Lnk Mth.m s.length (Rd.mth s ⟨i.toNat,false⟩) x:=fun x a b=>.inr ⟨.inl a,b⟩;rcases Dz h0 h1 with ⟨_,a1,a2,a3⟩ | ⟨b0,b1⟩
 rotate_left
 ·simp only at b0;refine no _ ?_ (Zx b1);unfold mth;simp only;rw [Ci (by omega) (by omega),if_pos (by omega)]
  decide
 simp only at a1 a2 a3;rcases Dz (s:=s) (i:=i+1) (by omega) a1 with ⟨_,b1,b2,b3⟩ | ⟨c0,c1⟩
 rotate_left
 ·simp only at c0;refine no _ ?_ ?_
  ·unfold mth;simp only;rw [Ci (by omega) (by omega),if_pos (by omega)]
   decide
  ·rw [Rz,a3];exact Vb c1
 simp only at b1 b2 b3;rw [show i+1+1=i+2 by omega] at b1 b3;rcases Dy (s:=s) (i:=i+2) (a:=0) (b:=4) (by omega) b1 (by omega) with ⟨c0,c1,c2⟩ | ⟨d0,d1⟩
 rotate_left
 ·refine no _ ?_ ?_
  ·unfold mth;simp only;rw [if_pos d0]
   decide
  ·rw [Rz,a3];show (g3 s (Rd.nx s _).2).bad=true;rw [b3];exact V5 d1
 rw [show i+2+1=i+3 by omega] at c2;have e2:(Rd.mth s ⟨i.toNat,false⟩).2=g4 s (cnt s (i+2) 0 4) ⟨(i+3).toNat,false⟩:=by
  rw [Rz,a3];show g3 s (Rd.nx s _).2=_;rw [b3];show g4 s (Rd.cn s 0 4 _).1 (Rd.cn s 0 4 _).2=_;rw [c2]
 have cb:=cnt_bd s (i+2) 0 4 (by omega)
 -- the parameters
 rcases Jg (s:=s) (i:=i+3) (cnt s (i+2) 0 4).toNat (by omega) (by omega) with ⟨_,d1,d2,d3⟩ | ⟨d0,d1⟩
 rotate_left
 ·simp only at d0;refine no _ ?_ ?_
  ·unfold mth;simp only;rw [if_neg (by omega),Ci (i:=i+3+2 * cnt s (i+2) 0 4+2) (by omega) (by omega),if_pos (by omega)]
   decide
  ·rw [e2];exact Vh d1
 simp only at d1 d2 d3;rw [show i+3+2 * (((cnt s (i+2) 0 4).toNat:Nat):Int)=i+3+2 * cnt s (i+2) 0 4 by omega] at d1 d3;have e3:(Rd.mth s ⟨i.toNat,false⟩).2=g5 s ⟨(i+3+2 * cnt s (i+2) 0 4).toNat,false⟩:=by
  rw [e2];show g5 s (Rd.tys s _ _).2=_;rw [d3]
 generalize hj:i+3+2 * cnt s (i+2) 0 4=j at *;have j0:0≤j:=by omega
 rcases Uq (s:=s) (i:=j) j0 d1 with ⟨_,f1,f2,f3⟩ | ⟨f0,f1⟩
 rotate_left
 ·simp only [ty] at f0;refine no _ ?_ ?_
  ·unfold mth;simp only;rw [if_neg (by omega),hj,Ci (i:=j+2) (by omega) (by omega),if_pos (by omega)]
   decide
  ·rw [e3];exact Vd f1
 simp only [ty] at f1 f2 f3;have e4:(Rd.mth s ⟨i.toNat,false⟩).2=g6 s ⟨(j+2).toNat,false⟩:=by
  rw [e3];show g6 s (Rd.ty s _).2=_;rw [f3]
 rcases Dy (s:=s) (i:=j+2) (a:=0) (b:=8) (by omega) f1 (by omega) with ⟨l0,l1,l2⟩ | ⟨l0,l1⟩
 rotate_left
 ·refine no _ ?_ ?_
  ·unfold mth;simp only;rw [if_neg (by omega),hj,if_pos l0]
   decide
  ·rw [e4];exact Ui l1
 rw [show j+2+1=j+3 by omega] at l2;rcases Dy (s:=s) (i:=j+3) (a:=0) (b:=8) (by omega) (by omega) (by omega) with ⟨k0,k1,k2⟩ | ⟨k0,k1⟩
 rotate_left
 ·refine no _ ?_ ?_
  ·unfold mth;simp only;rw [if_neg (by omega),hj,if_neg (by omega),if_pos k0]
   decide
  ·rw [e4];show (g7 s (Rd.cn s 0 8 _).1 (Rd.cn s 0 8 _).2).bad=true;rw [l2];exact Vq k1
 rw [show j+3+1=j+4 by omega] at k2;have e5:(Rd.mth s ⟨i.toNat,false⟩).2=g8 s (cnt s (j+2) 0 8) (cnt s (j+3) 0 8) ⟨(j+4).toNat,false⟩:=by
  rw [e4];show g7 s (Rd.cn s 0 8 _).1 (Rd.cn s 0 8 _).2=_;rw [l2];show g8 s _ (Rd.cn s 0 8 _).1 (Rd.cn s 0 8 _).2=_;rw [k2]
 rcases Dy (s:=s) (i:=j+4) (a:=1) (b:=120) (by omega) (by omega) (by omega) with ⟨n0,n1,n2⟩ | ⟨n0,n1⟩
 rotate_left
 ·refine no _ ?_ ?_
  ·unfold mth;simp only;rw [if_neg (by omega),hj,if_neg (by omega),if_neg (by omega),if_pos n0]
   decide
  ·rw [e5];refine O8 ?_;unfold Rd.codes;obtain ⟨q,hq⟩:=Aq _ n1;simp only;rw [hq];exact Dg (Bg s) _ q
 rw [show j+4+1=j+5 by omega] at n2;rcases Wz (s:=s) (i:=j+5) (cnt s (j+4) 1 120).toNat (by omega) (by omega) with ⟨_,o1,o2,o3⟩ | ⟨o0,o1⟩
 rotate_left
 ·simp only at o0;refine no _ ?_ ?_
  ·unfold mth;simp only;rw [if_neg (by omega),hj,if_neg (by omega),if_neg (by omega),if_neg (by omega),if_pos (by omega)]
   decide
  ·rw [e5];refine O8 ?_;unfold Rd.codes;simp only;rw [n2];exact o1
 simp only at o1 o2 o3;rw [show j+5+(((cnt s (j+4) 1 120).toNat:Nat):Int)=j+5+cnt s (j+4) 1 120 by omega] at o1 o3;have hcode:Rd.codes s ⟨(j+4).toNat,false⟩=(codeTo s (j+5) (cnt s (j+4) 1 120).toNat,⟨(j+5+cnt s (j+4) 1 120).toNat,false⟩):=by
  unfold Rd.codes;simp only;rw [n2];exact Prod.ext o2 o3
 rcases Xf (s:=s) (i:=j+5+cnt s (j+4) 1 120) (by omega) o1 with ⟨p0,p1,p2,p3⟩ | ⟨p0,p1⟩
 rotate_left
 ·have hle:=hnds_le s (j+5+cnt s (j+4) 1 120);refine no _ ?_ ?_
  ·unfold mth;simp only;rw [if_neg (by omega),hj,if_neg (by omega),if_neg (by omega),if_neg (by omega),if_neg (by omega),if_pos (by omega)]
   decide
  ·rw [e5];show (g9 s _ _ (Rd.codes s _).2).bad=true;rw [hcode];exact Rb p1
 have hm:=Zf (s:=s) (L:=cnt s (j+2) 0 8) (H:=cnt s (j+3) 0 8) l0 p0 p1;have e6:(Rd.mth s ⟨i.toNat,false⟩).2=(Rd.mps s (cnt s (j+2) 0 8) (cnt s (j+3) 0 8) ⟨(hnds s (j+5+cnt s (j+4) 1 120)).2.toNat,false⟩).2:=by
  rw [e5];show g9 s _ _ (Rd.codes s _).2=_;rw [hcode];show g10 s _ _ (Rd.hnds s _).2=_;simp only;rw [p3];rfl
 have hx:mth s i=(⟨⟨at' s i,at' s (i+1),tys s (i+3) (cnt s (i+2) 0 4).toNat,(at' s j,at' s (j+1)),cnt s (j+2) 0 8,cnt s (j+3) 0 8,codeTo s (j+5) (cnt s (j+4) 1 120).toNat,(hnds s (j+5+cnt s (j+4) 1 120)).1,(mps s (hnds s (j+5+cnt s (j+4) 1 120)).2 (cnt s (j+2) 0 8) (cnt s (j+3) 0 8)).1⟩,(hnds s (j+5+cnt s (j+4) 1 120)).2,(mps s (hnds s (j+5+cnt s (j+4) 1 120)).2 (cnt s (j+2) 0 8) (cnt s (j+3) 0 8)).2⟩,(mps s (hnds s (j+5+cnt s (j+4) 1 120)).2 (cnt s (j+2) 0 8) (cnt s (j+3) 0 8)).2):=by
  unfold mth;simp only;rw [if_neg (by omega),hj,if_neg (by omega),if_neg (by omega),if_neg (by omega),if_neg (by omega),if_neg (by omega)]
 rw [hx];rcases hm with ⟨m0,m1,m2,m3⟩ | ⟨m0,m1⟩
 ·left
  refine ⟨m0,m1,?_,by rw [e6];exact m3⟩;have A:Rd.nx s ⟨i.toNat,false⟩=(at' s i,⟨(i+1).toNat,false⟩):=Prod.ext a2 a3;have B:Rd.nx s ⟨(i+1).toNat,false⟩=(at' s (i+1),⟨(i+2).toNat,false⟩):=Prod.ext b2 b3;have D:Rd.tys s (cnt s (i+2) 0 4).toNat ⟨(i+3).toNat,false⟩=(tys s (i+3) (cnt s (i+2) 0 4).toNat,⟨j.toNat,false⟩):=Prod.ext d2 d3;have E:Rd.ty s ⟨j.toNat,false⟩=((at' s j,at' s (j+1)),⟨(j+2).toNat,false⟩):=Prod.ext f2 f3;have P:Rd.hnds s ⟨(j+5+cnt s (j+4) 1 120).toNat,false⟩=((hnds s (j+5+cnt s (j+4) 1 120)).1,⟨(hnds s (j+5+cnt s (j+4) 1 120)).2.toNat,false⟩):=Prod.ext p2 p3;simp only [Rd.mth,A,B,c2,D,E,l2,k2,hcode,P];simp only [id_eq] at m2;rw [m2]
 ·right
  exact ⟨m0,by rw [e6];exact m1⟩
theorem Yw (s:List UInt8) (i:Int) (h:(s.length:Int) < i):(mth s i).2 < 0:=by
 unfold mth;simp only;rw [Ci (by omega) (by omega),if_pos (by omega)]
 decide
theorem Aam (s:List UInt8) (b:Int) (p:Nat):(Rd.ex s b ⟨p,true⟩).bad=true:=by
 unfold Rd.ex
 split
 ·exact Bg s p
 ·rfl
theorem Wb {s:List UInt8}{i b:Int} (h0:0≤i) (h1:i≤(s.length:Int)) (hb:0≤b) :
  (at' s i=b∧i < (s.length:Int)∧Rd.ex s b ⟨i.toNat,false⟩=⟨(i+1).toNat,false⟩)∨(at' s i ≠ b∧(Rd.ex s b ⟨i.toNat,false⟩).bad=true):=by
 unfold Rd.ex;by_cases h:i < (s.length:Int)
 ·rw [Hw h0 h];by_cases e:at' s i=b
  ·left;rw [if_pos e];exact ⟨e,h,rfl⟩
  ·right;rw [if_neg e];exact ⟨e,rfl⟩
 ·right
  rw [Hn (by omega),at_out (by omega)];refine ⟨by omega,?_⟩
  split <;> rfl
theorem fil_same (s:List UInt8) :
  ((Rd.fil s ⟨0,false⟩).2.bad=false∧(Rd.fil s ⟨0,false⟩).2.pos=s.length↔(fil s).2.2=(s.length:Int)) ∧
  ((fil s).2.2=(s.length:Int)→(Rd.fil s ⟨0,false⟩).1.classes=(fil s).1∧(Rd.fil s ⟨0,false⟩).1.methods=(fil s).2.1.map Mth.m):=by
 -- the stages of the program's reader
 have stg:(Rd.fil s ⟨0,false⟩).2=(Rd.rep (Rd.mth s) (Rd.cn s 1 6 (Rd.rep (Rd.cls s) (Rd.cn s 0 6 (Rd.ex s 77 (Rd.ex s 83 ⟨0,false⟩))).1.toNat (Rd.cn s 0 6 (Rd.ex s 77 (Rd.ex s 83 ⟨0,false⟩))).2).2).1.toNat
   (Rd.cn s 1 6 (Rd.rep (Rd.cls s) (Rd.cn s 0 6 (Rd.ex s 77 (Rd.ex s 83 ⟨0,false⟩))).1.toNat (Rd.cn s 0 6 (Rd.ex s 77 (Rd.ex s 83 ⟨0,false⟩))).2).2).2).2:=by simp only [Rd.fil]
 have hb4:∀ (k:Nat) (t:Rd.St),t.bad=true→(Rd.rep (Rd.mth s) k t).2.bad=true:=fun k t ht=>by
  obtain ⟨p,rfl⟩:=Aq t ht;exact Dg (Rh s) k p
 have hb3:∀ (t:Rd.St),t.bad=true→(Rd.rep (Rd.mth s) (Rd.cn s 1 6 t).1.toNat (Rd.cn s 1 6 t).2).2.bad=true:=fun t ht=>by
  obtain ⟨p,rfl⟩:=Aq t ht;exact hb4 _ _ (Bq s 1 6 p)
 have hb2:∀ (k:Nat) (t:Rd.St),t.bad=true→(Rd.rep (Rd.cls s) k t).2.bad=true:=fun k t ht=>by
  obtain ⟨p,rfl⟩:=Aq t ht;exact Dg (Ri s) k p
 have no:(Rd.fil s ⟨0,false⟩).2.bad=true→(fil s).2.2 ≠ (s.length:Int) →
   ((Rd.fil s ⟨0,false⟩).2.bad=false∧(Rd.fil s ⟨0,false⟩).2.pos=s.length↔(fil s).2.2=(s.length:Int)) ∧
   ((fil s).2.2=(s.length:Int)→(Rd.fil s ⟨0,false⟩).1.classes=(fil s).1∧(Rd.fil s ⟨0,false⟩).1.methods=(fil s).2.1.map Mth.m):=by
  intro a b;refine ⟨⟨fun h=>?_,fun h=>absurd h b⟩,fun h=>absurd h b⟩;rw [a] at h;exact absurd h.1 (by simp)
 rcases Wb (s:=s) (i:=0) (b:=83) (by omega) (by omega) (by omega) with ⟨a1,a2,a3⟩ | ⟨a1,a2⟩
 rotate_left
 ·refine no ?_ ?_
  ·rw [stg];refine hb3 _ (hb2 _ _ ?_);have h1:(Rd.ex s 83 ⟨0,false⟩).bad=true:=a2;obtain ⟨p,hp⟩:=Aq _ h1;rw [hp];obtain ⟨q,hq⟩:=Aq _ (Aam s 77 p);rw [hq];exact Bq s 0 6 q
  ·unfold fil;rw [if_pos a1];simp only;omega
 have x1:Rd.ex s 83 ⟨0,false⟩=⟨(0+1:Int).toNat,false⟩:=a3;rcases Wb (s:=s) (i:=0+1) (b:=77) (by omega) (by omega) (by omega) with ⟨b1,b2,b3⟩ | ⟨b1,b2⟩
 rotate_left
 ·refine no ?_ ?_
  ·rw [stg,x1];refine hb3 _ (hb2 _ _ ?_);obtain ⟨q,hq⟩:=Aq _ b2;rw [hq];exact Bq s 0 6 q
  ·unfold fil;rw [if_neg (by omega),if_pos (show at' s 1 ≠ 77 from b1)];simp only;omega
 rcases Dy (s:=s) (i:=0+1+1) (a:=0) (b:=6) (by omega) (by omega) (by omega) with ⟨c0,c1,c2⟩ | ⟨c0,c1⟩
 rotate_left
 ·refine no ?_ ?_
  ·rw [stg,x1,b3];exact hb3 _ (hb2 _ _ c1)
  ·unfold fil;rw [if_neg (by omega),if_neg (show ¬ at' s 1 ≠ 77 from fun h=>h b1),if_pos (show cnt s 2 0 6 < 0 from c0)];simp only;omega
 have c0':0≤cnt s 2 0 6:=c0;have hc:=Ga (g:=id) (fun i a b=>Yy (s:=s) a b) (Ri s) (fun i hi=>.inl (Ym s i hi)) (cnt s 2 0 6).toNat 3 (by omega) (by omega);rcases hc with ⟨d0,d1,d2,d3⟩ | ⟨d0,d1⟩
 rotate_left
 ·refine no ?_ ?_
  ·rw [stg,x1,b3,c2];exact hb3 _ d1
  ·unfold fil;rw [if_neg (by omega),if_neg (show ¬ at' s 1 ≠ 77 from fun h=>h b1),if_neg (show ¬ cnt s 2 0 6 < 0 by omega)];simp only
   split
   ·simp only;omega
   ·rw [Ci (by omega) (by omega),if_pos (by omega)];simp only;omega
 have d2':(Rd.rep (Rd.cls s) (cnt s 2 0 6).toNat ⟨(3:Int).toNat,false⟩).1=(rep (cls s) (cnt s 2 0 6).toNat 3).1:=by simpa using d2
 rcases Dy (s:=s) (i:=(rep (cls s) (cnt s 2 0 6).toNat 3).2) (a:=1) (b:=6) d0 d1 (by omega) with ⟨e0,e1,e2⟩ | ⟨e0,e1⟩
 rotate_left
 ·refine no ?_ ?_
  ·rw [stg,x1,b3,c2];show (Rd.rep (Rd.mth s) (Rd.cn s 1 6 (Rd.rep (Rd.cls s) (cnt s 2 0 6).toNat ⟨(3:Int).toNat,false⟩).2).1.toNat (Rd.cn s 1 6 (Rd.rep (Rd.cls s) (cnt s 2 0 6).toNat ⟨(3:Int).toNat,false⟩).2).2).2.bad=true;rw [d3];exact hb4 _ _ e1
  ·unfold fil;rw [if_neg (by omega),if_neg (show ¬ at' s 1 ≠ 77 from fun h=>h b1),if_neg (show ¬ cnt s 2 0 6 < 0 by omega)];simp only;rw [if_neg (by omega),if_pos e0];simp only;omega
 have hm:=Ga (g:=Mth.m) (fun i a b=>Yl (s:=s) a b) (Rh s) (fun i hi=>.inl (Yw s i hi)) (cnt s (rep (cls s) (cnt s 2 0 6).toNat 3).2 1 6).toNat ((rep (cls s) (cnt s 2 0 6).toNat 3).2+1) (by omega) (by omega);have stg2:(Rd.fil s ⟨0,false⟩).2=(Rd.rep (Rd.mth s) (cnt s (rep (cls s) (cnt s 2 0 6).toNat 3).2 1 6).toNat ⟨((rep (cls s) (cnt s 2 0 6).toNat 3).2+1).toNat,false⟩).2:=by
  rw [stg,x1,b3,c2];show (Rd.rep (Rd.mth s) (Rd.cn s 1 6 (Rd.rep (Rd.cls s) (cnt s 2 0 6).toNat ⟨(3:Int).toNat,false⟩).2).1.toNat (Rd.cn s 1 6 (Rd.rep (Rd.cls s) (cnt s 2 0 6).toNat ⟨(3:Int).toNat,false⟩).2).2).2=_;rw [d3,e2]
 have hfil:∀ ms:List Mth × Int,rep (mth s) (cnt s (rep (cls s) (cnt s 2 0 6).toNat 3).2 1 6).toNat ((rep (cls s) (cnt s 2 0 6).toNat 3).2+1)=ms→fil s=if ms.2 < 0 then ([],[],-1) else ((rep (cls s) (cnt s 2 0 6).toNat 3).1,ms.1,ms.2):=by
  intro ms hms;unfold fil;rw [if_neg (by omega),if_neg (show ¬ at' s 1 ≠ 77 from fun h=>h b1),if_neg (show ¬ cnt s 2 0 6 < 0 by omega)];simp only;rw [if_neg (by omega),if_neg (by omega),hms]
 have hf:=hfil _ rfl;generalize hms:rep (mth s) (cnt s (rep (cls s) (cnt s 2 0 6).toNat 3).2 1 6).toNat ((rep (cls s) (cnt s 2 0 6).toNat 3).2+1)=ms at *;rcases hm with ⟨m0,m1,m2,m3⟩ | ⟨m0,m1⟩
 ·rw [if_neg (by omega)] at hf;rw [hf,stg2,m3];refine ⟨⟨fun h=>?_,fun h=>?_⟩,fun _=>⟨?_,?_⟩⟩
  ·simp only at h ⊢;omega
  ·simp only at h ⊢;exact ⟨trivial,by omega⟩
  ·have h2:(Rd.fil s ⟨0,false⟩).1.classes=(Rd.rep (Rd.cls s) (Rd.cn s 0 6 (Rd.ex s 77 (Rd.ex s 83 ⟨0,false⟩))).1.toNat (Rd.cn s 0 6 (Rd.ex s 77 (Rd.ex s 83 ⟨0,false⟩))).2).1:=by simp only [Rd.fil]
   rw [h2,x1,b3,c2];exact d2'
  ·have h2:(Rd.fil s ⟨0,false⟩).1.methods=(Rd.rep (Rd.mth s) (Rd.cn s 1 6 (Rd.rep (Rd.cls s) (Rd.cn s 0 6 (Rd.ex s 77 (Rd.ex s 83 ⟨0,false⟩))).1.toNat (Rd.cn s 0 6 (Rd.ex s 77 (Rd.ex s 83 ⟨0,false⟩))).2).2).1.toNat
     (Rd.cn s 1 6 (Rd.rep (Rd.cls s) (Rd.cn s 0 6 (Rd.ex s 77 (Rd.ex s 83 ⟨0,false⟩))).1.toNat (Rd.cn s 0 6 (Rd.ex s 77 (Rd.ex s 83 ⟨0,false⟩))).2).2).2).1:=by simp only [Rd.fil]
   rw [h2,x1,b3,c2];show (Rd.rep (Rd.mth s) (Rd.cn s 1 6 (Rd.rep (Rd.cls s) (cnt s 2 0 6).toNat ⟨(3:Int).toNat,false⟩).2).1.toNat (Rd.cn s 1 6 (Rd.rep (Rd.cls s) (cnt s 2 0 6).toNat ⟨(3:Int).toNat,false⟩).2).2).1=_;rw [d3,e2];exact m2
 ·refine no (by rw [stg2];exact m1) ?_;rw [hf]
  split
  ·simp only;omega
  ·simp only;omega
end Go.Proofs.YtcefiamkoincoaaGreat.Rf
namespace Go.Proofs.YtcefiamkoincoaaGreat
open Go.RowKit
def RHndsAt (w:World) (b:Nat) (v:Value) (l:List Rd.Hnd):Prop:=w.ownsRow b 116 4 v l.length (Bb l)
theorem RHndsAt.kp {e:Option TypeId}{b:Nat}{v:Value}{l:List Rd.Hnd}{w w':World} (h:RHndsAt w b v l) (hk:Kp e b w w') (hne:some 116 ≠ e):RHndsAt w' b v l:=Au h hk hne
theorem RHndsAt.mono {b b':Nat}{v:Value}{l:List Rd.Hnd}{w:World} (h:RHndsAt w b v l) (hb:b'≤b):RHndsAt w b' v l:=A8 h hb
def RClssIn (w:World) (b:Nat) (v:Value) (l:List (Rd.Cls × Value)):Prop :=
 w.ownsRow b 167 2 v l.length (Bw l)∧∀ p∈l,TysAt w b p.2 p.1.fields
theorem RClssIn.kp {b:Nat}{v:Value}{l:List (Rd.Cls × Value)}{w w':World} (h:RClssIn w b v l) {e:Option TypeId} (hk:Kp e b w w') (hne:some 167 ≠ e) (hne2:some 39 ≠ e):RClssIn w' b v l :=
 ⟨Au h.1 hk hne,fun p hp=>(h.2 p hp).kp hk hne2⟩
theorem RClssIn.mono {b b':Nat}{v:Value}{l:List (Rd.Cls × Value)}{w:World} (h:RClssIn w b v l) (hb:b'≤b):RClssIn w b' v l:=⟨A8 h.1 hb,fun p hp=>(h.2 p hp).mono hb⟩
def RMpsIn (w:World) (b:Nat) (v:Value) (l:List (Rd.Mp × Value × Value)):Prop :=
 w.ownsRow b 82 3 v l.length (Cn l)∧∀ p∈l,TysAt w b p.2.1 p.1.locals∧TysAt w b p.2.2 p.1.stack
theorem RMpsIn.kp {b:Nat}{v:Value}{l:List (Rd.Mp × Value × Value)}{w w':World} (h:RMpsIn w b v l) {e:Option TypeId} (hk:Kp e b w w') (hne:some 82 ≠ e) (hne2:some 39 ≠ e):RMpsIn w' b v l :=
 ⟨Au h.1 hk hne,fun p hp=>⟨(h.2 p hp).1.kp hk hne2,(h.2 p hp).2.kp hk hne2⟩⟩
theorem RMpsIn.mono {b b':Nat}{v:Value}{l:List (Rd.Mp × Value × Value)}{w:World} (h:RMpsIn w b v l) (hb:b'≤b):RMpsIn w b' v l:=⟨A8 h.1 hb,fun p hp=>⟨(h.2 p hp).1.mono hb,(h.2 p hp).2.mono hb⟩⟩
def Ul (w:World) (b:Nat) (v:Value) (ms:List Rd.Mp):Prop:=∃ l,l.map Prod.fst=ms∧RMpsIn w b v l
structure RMthV where
 params:Value
 code:ByteArray
 handlers:Value
 maps:Value
def Cv (x:Rf.Mth) (u:RMthV):List Value :=
 [.int .i64 x.m.cl,.int .i64 x.m.name,u.params,.int .i64 x.m.result.1,.int .i64 x.m.result.2,.int .i64 x.m.locals,.int .i64 x.m.stack,.string u.code,u.handlers,u.maps,.int .i64 x.mapsAt,.int .i64 x.fin]
def RMthIn (w:World) (b:Nat) (x:Rf.Mth) (u:RMthV):Prop :=
 TysAt w b u.params x.m.params∧u.code.data.toList.map (fun c=>(c.toNat:Int))=x.m.code∧RHndsAt w b u.handlers x.m.handlers∧Ul w b u.maps x.m.maps
theorem RMthIn.kp {b:Nat}{x:Rf.Mth}{u:RMthV}{w w':World} (h:RMthIn w b x u) {e:Option TypeId} (hk:Kp e b w w') (h1:some 39 ≠ e) (h3:some 116 ≠ e) (h4:some 82 ≠ e):RMthIn w' b x u:=by
 obtain ⟨a,c,d,l,hl,f⟩:=h;exact ⟨a.kp hk h1,c,d.kp hk h3,l,hl,f.kp hk h4 h1⟩
theorem RMthIn.mono {b b':Nat}{x:Rf.Mth}{u:RMthV}{w:World} (h:RMthIn w b x u) (hb:b'≤b):RMthIn w b' x u:=by
 obtain ⟨a,c,d,l,hl,f⟩:=h;exact ⟨a.mono hb,c,d.mono hb,l,hl,f.mono hb⟩
def Ec (l:List (Rf.Mth × RMthV)):List Value:=l.flatMap fun x=>Cv x.1 x.2
theorem N5 (l:List (Rf.Mth × RMthV)) (x:Rf.Mth × RMthV):Ec (l ++ [x])=Ec l ++ Cv x.1 x.2:=by simp [Ec]
def RMthsIn (w:World) (b:Nat) (v:Value) (l:List (Rf.Mth × RMthV)):Prop :=
 w.ownsRow b 52 12 v l.length (Ec l)∧∀ p∈l,RMthIn w b p.1 p.2
theorem RMthsIn.kp {b:Nat}{v:Value}{l:List (Rf.Mth × RMthV)}{w w':World} (h:RMthsIn w b v l) {e:Option TypeId} (hk:Kp e b w w') (h0:some 52 ≠ e) (h1:some 39 ≠ e) (h3:some 116 ≠ e) (h4:some 82 ≠ e):RMthsIn w' b v l :=
 ⟨Au h.1 hk h0,fun p hp=>(h.2 p hp).kp hk h1 h3 h4⟩
theorem RMthsIn.mono {b b':Nat}{v:Value}{l:List (Rf.Mth × RMthV)}{w:World} (h:RMthsIn w b v l) (hb:b'≤b):RMthsIn w b' v l:=⟨A8 h.1 hb,fun p hp=>(h.2 p hp).mono hb⟩
end Go.Proofs.YtcefiamkoincoaaGreat
