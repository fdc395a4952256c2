/- a part of the proofs -/
import Derived.Deep.RegionHeld
import Derived.Deep.RegionHeld3
import Derived.Deep.Cut
import Derived.Deep.CutRange
import Derived.Test.YtpcgnjolfahacaaGreatPk07
set_option maxRecDepth 100000
set_option maxHeartbeats 40000000
set_option linter.unusedVariables false
set_option linter.unusedSimpArgs false
namespace Go.Proofs.YtpcgnjolfahacaaGreat
open Go.RowKit
theorem Mu {α β:Type}{l:List (α × β)}{r:List α} (h:l.map Prod.fst=r) {P:α→Prop} (hp:∀ x∈r,P x):∀ p∈l,P p.1:=by
 intro p hpm;refine hp p.1 ?_;rw[← h];exact List.mem_map_of_mem hpm
theorem Oy {T:List Int}{nf:Int}{ow:List Int}:∀ (l:List Rd.Mth) (k:Nat),(Abf T nf ow k l).1=0→Abf T nf ow k l=(0,0,0):=by
 intro l
 induction l with
 | nil=>intro k _;rfl
 | cons m r ih =>
  intro k h;unfold Abf at h ⊢;by_cases h0:(Aci T nf ow m).1≠0
  ·rw[if_pos h0]at h;exact absurd h h0
  ·rw[if_neg h0]at h ⊢;exact ih _ h
theorem Ty (f:Rd.Fil) (h:(Ack f).1=0):Ack f=(0,0,0):=by
 unfold Ack at h ⊢;by_cases h1:(Tr.inCl (Tr.tree f.classes) 0 f.classes).1≠0
 ·rw[if_pos h1]at h;exact absurd h h1
 ·rw[if_neg h1]at h ⊢;unfold Ad3 at h ⊢;by_cases h2:0≤Abd (Tr.tree f.classes) f.methods 0 f.methods
  ·rw[if_pos h2]at h;simp at h
  ·rw[if_neg h2]at h ⊢;exact Oy _ _ h
theorem Ib (s:ByteArray) (w:World) (hs:s.size≤maxLen) :
  Calls Tryz.prog 45 #[.string s] w fun e w' =>
   ∃ a1 n1 c1 a2 n2 c2,e=.returned (.tuple #[.agg #[.slice a1 n1 c1,.slice a2 n2 c2],.agg #[.int .i64 (Aa7 s.data.toList).1,.int .i64 (Aa7 s.data.toList).2.1,.int .i64 (Aa7 s.data.toList).2.2]]) ∧
    ((Aa7 s.data.toList).1=0→∃ lcs lms,lcs.map Prod.fst=(Rd.read s.data.toList).1.classes∧ClssIn w' w.heap.size (.slice a1 n1 c1) lcs∧lms.map Prod.fst=(Rd.read s.data.toList).1.methods∧MthsIn w' w.heap.size (.slice a2 n2 c2) lms)∧Below w.heap.size w w':=by
 have hRd:=fun w=>Ei s w hs;obtain⟨hm6,hmb⟩:=Dq s.data.toList;obtain⟨hc6,hcf⟩:=Dl s.data.toList;have hPz:(Aa7 s.data.toList).1=0→Aa7 s.data.toList=(0,0,0):=by
  intro h;unfold Aa7 at h ⊢;by_cases h1:(Rd.read s.data.toList).2≠0
  ·rw[if_pos h1]at h;exact absurd h h1
  ·rw[if_neg h1]at h ⊢;exact Ty _ h
 generalize hP:Aa7 s.data.toList=P at *;unfold Aa7 at hP;generalize Rd.read s.data.toList=q at *;obtain⟨⟨cs,ms⟩,er⟩:=q;obtain⟨P1,P2,P3⟩:=P;simp only[Prod.mk.injEq]at hRd hm6 hmb hc6 hcf hP hPz ⊢;have HPZ:=Ac hPz;clear hPz;have HRD:=Ac hRd;have HMB:=Ac hmb;have HCF:=Ac hcf;clear hRd hmb hcf;have hB0:=Ah w (O1 none 0 0 none 0 0) (O8 0 0 0);have C0:=Aj w (O1 none 0 0 none 0 0) (O8 0 0 0);have D0:=Ai w (O1 none 0 0 none 0 0) (O8 0 0 0);by_cases h1:er=0
 ·subst h1;rw[if_neg (by simp)]at hP;have HP:=Ac hP;clear hP;go_enter Tryz.func45,Tryz.ntmps45;go_wp2_with fail
  refine(Aa HRD _).mono ?_;rintro e w1 ⟨a1,n1,c1,a2,n2,c2,rfl,⟨lcs,hl1,hcs⟩,⟨lms,hl2,hms⟩,hb1⟩;obtain⟨xa,xc,hsh⟩:=Ag hcs.1;simp only[Value.slice.injEq]at hsh;obtain⟨rfl,rfl,rfl⟩:=hsh;obtain⟨xa,xc,hsh⟩:=Ag hms.1;simp only[Value.slice.injEq]at hsh;obtain⟨rfl,rfl,rfl⟩:=hsh;have hB1:=QB hB0 hb1;have hs1:=hB1.size;have C1:=stay hb1 C0;have D1:=stay hb1 D0;have lC:=lt_of_block C1;have lD:=lt_of_block D1;have hcs':ClssIn w1 (w.heap.size+1+1) (.slice a1 lcs.length c1) lcs:=by simpa using hcs
  have hms':MthsIn w1 (w.heap.size+1+1) (.slice a2 lms.length c2) lms:=by simpa using hms
  have hK1:Kp none (w.heap.size+1+1) w1 (w1.alloc (O1 a1 lcs.length c1 a2 lms.length c2)):=Kp.alloc _ _;have hfi:=Wc a1 a2 c1 c2 lcs lms (w.heap.size+1+1) (w1.alloc (O1 a1 lcs.length c1 a2 lms.length c2))
   (by have:=congrArg List.length hl2;simp at this;omega) (by have:=congrArg List.length hl1;simp at this;omega) (Mu hl1 (Aa HCF)) (hcs'.kp hK1 (by decide) (by decide)) (hms'.kp hK1 (by decide) (by decide) (by decide) (by decide) (by decide)) (Mu hl2 (Aa HMB))
  rw[hl1,hl2,Aa HP]at hfi;have HFI:=Ac hfi;have hB1':=hB1.alloc hs1 (O1 a1 lcs.length c1 a2 lms.length c2);have C1':=Ae C1 (O1 a1 lcs.length c1 a2 lms.length c2);have D1':=Ae D1 (O1 a1 lcs.length c1 a2 lms.length c2);have E1':=Ad w1 (O1 a1 lcs.length c1 a2 lms.length c2);clear hfi hcs hms hb1 C0 D0 hB0 C1 D1 hK1;go_wp2_with fail
  refine(Aa HFI).mono ?_;rintro e w2 ⟨rfl,hb2⟩;have hB2:=hB1'.trans (hb2.mono hB1'.size);have C2:=stay hb2 C1';have D2:=stay hb2 D1';have E2:=stay hb2 E1';have hcs2:=(hcs'.kp (Kp.alloc (e:=none) w1 (O1 a1 lcs.length c1 a2 lms.length c2)) (by decide) (by decide)).kp (Kp.of_below (e:=none) hb2) (by decide) (by decide);have hms2:=(hms'.kp (Kp.alloc (e:=none) w1 (O1 a1 lcs.length c1 a2 lms.length c2)) (by decide) (by decide) (by decide) (by decide) (by decide)).kp (Kp.of_below (e:=none) hb2) (by decide) (by decide) (by decide) (by decide) (by decide);have hs2:=hB2.size;have lC2:=lt_of_block C2;have lD2:=lt_of_block D2;have lE2:=lt_of_block E2;obtain⟨x0,x1⟩:=cl2 E2;obtain⟨y0,y1⟩:=cl2 C2;obtain⟨z0,z1,z2⟩:=cl3 D2;obtain⟨p0,p1⟩:=fr2 C2;obtain⟨q0,q1,q2⟩:=fr3 D2;simp at x0 x1 y0 y1 z0 z1 z2;clear C1' D1' E1' hB1' hb2;by_cases h2:P1=0
  ·obtain⟨-,rfl,rfl⟩:=Aa HPZ h2;subst h2;go_wp2_with fail
   refine bodyPost_ret (v:=.tuple #[.agg #[.slice a1 lcs.length c1,.slice a2 lms.length c2],.agg #[.int .i64 0,.int .i64 0,.int .i64 0]]) (by simp[results,Tryz.results45,go_sem,y0,y1,z0,z1,z2,lC2,lD2]) rfl ?_;have k1:Kp none (w.heap.size+1+1) w2 ((((((w2.setCell ⟨w.heap.size,0,none⟩ (.slice a1 lcs.length c1)).setCell ⟨w.heap.size,1,none⟩ (.slice a2 lms.length c2)).setCell ⟨w.heap.size+1,0,none⟩ (.int .i64 0)).setCell ⟨w.heap.size+1,1,none⟩ (.int .i64 0)).setCell ⟨w.heap.size+1,2,none⟩ (.int .i64 0)).alloc (O8 0 0 0)) :=
    (((((Kp.set_lo (by omega) _).trans (Kp.set_lo (by omega) _)).trans (Kp.set_lo (by omega) _)).trans (Kp.set_lo (by omega) _)).trans (Kp.set_lo (by omega) _)).trans (Kp.alloc _ _)
   refine⟨a1,lcs.length,c1,a2,lms.length,c2,rfl,?_,?_⟩
   ·first | intro _;exact⟨lcs,lms,hl1,(hcs2.kp k1 (by decide) (by decide)).mono (by omega),hl2,(hms2.kp k1 (by decide) (by decide) (by decide) (by decide) (by decide)).mono (by omega)⟩ | exact⟨lcs,hl1,(hcs2.kp k1 (by decide) (by decide)).mono (by omega),lms,hl2,(hms2.kp k1 (by decide) (by decide) (by decide) (by decide) (by decide)).mono (by omega)⟩
   ·exact(((((hB2.setCell (by simp) _).setCell (by simp) _).setCell (by simp) _).setCell (by simp) _).setCell (by simp) _).alloc (by simp;omega) _
  ·have h2':(P1 != 0)=true:=by simpa using h2
   go_wp2;have H2:=Ac h2;clear h2
   go_region
   go_wp2_with fail
   refine bodyPost_ret (v:=.tuple #[.agg #[.slice none 0 0,.slice none 0 0],.agg #[.int .i64 P1,.int .i64 P2,.int .i64 P3]]) (by simp[results,Tryz.results45,go_sem,y0,y1,z0,z1,z2,lC2,lD2]) rfl ?_;refine⟨none,0,0,none,0,0,rfl,fun h=>absurd h (Aa H2),?_⟩;exact((((((hB2.setCell (by simp) _).setCell (by simp) _).setCell (by simp) _).setCell (by simp) _).setCell (by simp) _).alloc (by simp;omega) _).drew
 ·rw[if_pos h1]at hP;have h1':(er != 0)=true:=by simpa using h1
  simp only[Prod.mk.injEq]at hP;obtain⟨rfl,rfl,rfl⟩:=hP;have H1:=Ac h1;clear h1 HPZ;go_enter Tryz.func45,Tryz.ntmps45;go_wp2_with fail
  refine(Aa HRD _).mono ?_;rintro e w1 ⟨a1,n1,c1,a2,n2,c2,rfl,-,-,hb1⟩;have hB1:=QB hB0 hb1;have hs1:=hB1.size;have C1:=stay hb1 C0;have D1:=stay hb1 D0;have lC2:=lt_of_block C1;have lD2:=lt_of_block D1;obtain⟨y0,y1⟩:=cl2 C1;obtain⟨z0,z1,z2⟩:=cl3 D1;obtain⟨p0,p1⟩:=fr2 C1;obtain⟨q0,q1,q2⟩:=fr3 D1;simp at y0 y1 z0 z1 z2;go_wp2_with fail
  refine bodyPost_ret (v:=.tuple #[.agg #[.slice none 0 0,.slice none 0 0],.agg #[.int .i64 er,.int .i64 0,.int .i64 0]]) (by simp[results,Tryz.results45,go_sem,y0,y1,z0,z1,z2,lC2,lD2]) rfl ?_;refine⟨none,0,0,none,0,0,rfl,fun h=>absurd h (Aa H1),?_⟩;exact(((((hB1.setCell (by simp) _).setCell (by simp) _).setCell (by simp) _).setCell (by simp) _).setCell (by simp) _).alloc (by simp;omega) _
theorem Dj {α:Type} (f:α→List UInt8) (c:Nat) (l:List α) (h:∀ x∈l,(f x).length≤c):(l.flatMap f).length≤l.length*c:=by
 induction l with
 | nil=>simp
 | cons x r ih =>
  have h1:=h x (List.mem_cons_self ..);have h2:=ih (fun y hy=>h y (List.mem_cons_of_mem _ hy));simp only[List.flatMap_cons,List.length_append,List.length_cons,Nat.add_mul];omega
theorem Sl (s:ByteArray):(Aau (Rd.Fil.bare (Rd.read s.data.toList).1)).length≤100000:=by
 obtain⟨hm6,hmb⟩:=Dq s.data.toList;obtain⟨hc6,hcf⟩:=Dl s.data.toList;generalize (Rd.read s.data.toList).1=f at *;obtain⟨cs,ms⟩:=f;simp only at hm6 hmb hc6 hcf;unfold Aau Abv Rd.Fil.bare;simp only[List.length_append,List.length_cons,List.length_nil];have h1:=Dj Aat 2002 cs (fun x hx=>by have:=hcf x hx;simp only[Aat,List.length_cons,Abh];omega);have h2:=Dj Aad 200 (ms.map Rd.Mth.bare) (fun x hx=>by
  simp only[List.mem_map]at hx;obtain⟨y,hy,rfl⟩:=hx;have:=hmb y hy;have e1:=this.ps;have e2:=this.code;have e3:=this.hs;rw[Aej];simp only[Rd.Mth.bare,Abj,Ab5,List.length_cons,Aer,List.flatMap_nil,List.length_nil];omega)
 rw[List.length_map]at h2;omega
theorem Tt (s:ByteArray) (w:World) (hs:s.size≤maxLen) :
  Calls Tryz.prog 44 #[.string s] w fun e w'=>e=.returned (.tuple #[.string (Rf.stripD s),.int .i64 (Rf.formed s.data.toList).1])∧Below w.heap.size w w':=by
 have hrd:=fun w=>Ib s w hs;have hfm:=Bu s.data.toList;have hse:=M7 s;have hsz:=Sl s;have hno:(Rf.formed s.data.toList).1≠0→Rf.stripD s=⟨#[]⟩:=fun h=>by unfold Rf.stripD;rw[if_pos h]
 obtain⟨hm6,-⟩:=Dq s.data.toList;obtain⟨hc6,-⟩:=Dl s.data.toList;rw[hfm]at hrd;generalize Rf.stripD s=R at *;generalize Rf.formed s.data.toList=P at *;generalize Rd.read s.data.toList=q at *;obtain⟨P1,P2,P3⟩:=P;obtain⟨⟨cs,ms⟩,er⟩:=q;simp only at hrd hse hsz hno hm6 hc6 ⊢;have HRD:=Ac hrd;have HSE:=Ac hse;have HSZ:=Ac hsz;have HNO:=Ac hno;clear hrd hse hsz hno hfm;by_cases h1:P1=0
 ·subst h1;go_enter Tryz.func44,Tryz.ntmps44;go_wp2_with fail
  refine(Aa HRD _).mono ?_;rintro e w1 ⟨a1,n1,c1,a2,n2,c2,rfl,hok,hb1⟩;obtain⟨lcs,lms,hl1,hcs,hl2,hms⟩:=hok trivial;clear hok;obtain⟨xa,xc,hsh⟩:=Ag hcs.1;simp only[Value.slice.injEq]at hsh;obtain⟨rfl,rfl,rfl⟩:=hsh;obtain⟨xa,xc,hsh⟩:=Ag hms.1;simp only[Value.slice.injEq]at hsh;obtain⟨rfl,rfl,rfl⟩:=hsh;have hll1:lcs.length≤6:=by have:=congrArg List.length hl1;simp at this;omega
  have hll2:lms.length≤6:=by have:=congrArg List.length hl2;simp at this;omega
  have hs1:=hb1.size;have hB1:=(hb1.alloc hs1 (O1 a1 lcs.length c1 a2 lms.length c2)).alloc (by simp;omega) (O8 0 P2 P3);have k1:Kp none w.heap.size w1 ((w1.alloc (O1 a1 lcs.length c1 a2 lms.length c2)).alloc (O8 0 P2 P3)):=(Kp.alloc _ _).trans (Kp.alloc _ _);have hcs1:=hcs.kp k1 (by decide) (by decide);have hms1:=hms.kp k1 (by decide) (by decide) (by decide) (by decide) (by decide);clear hcs hms k1;go_wp2_with fail
  refine(Kd a1 a2 lcs.length c1 c2 w.heap.size lms _ (by simp;omega) (by omega) hms1).mono ?_;rintro e w2 ⟨b2,d2,rfl,hms2,hb2⟩;have hB2:=QB hB1 hb2;have hs2:=hB2.size;have hcs2:=hcs1.kp (Kp.of_below (e:=none) hb2) (by decide) (by decide);have hbl:(Da lms).length=lms.length:=Ln lms;have hfil:(⟨lcs.map Prod.fst,(Da lms).map Prod.fst⟩:Rd.Fil)=Rd.Fil.bare ⟨cs,ms⟩:=by
   unfold Rd.Fil.bare Da;simp only[hl1,List.map_map];rw[← hl2,List.map_map];rfl
  have k2:=Kp.alloc (e:=none) (b:=w.heap.size) w2 (O1 a1 lcs.length c1 b2 lms.length d2);have hwr:=Tx a1 b2 c1 d2 w.heap.size lcs (Da lms) (w2.alloc (O1 a1 lcs.length c1 b2 lms.length d2)) (by rw[hfil];exact Aa HSZ) (by omega) (by omega) (hcs2.kp k2 (by decide) (by decide)) (by rw[hbl];exact hms2.kp k2 (by decide) (by decide) (by decide) (by decide) (by decide));rw[hfil,hbl,← Aa HSE trivial]at hwr;have HWR:=Ac hwr;clear hwr hfil k2 hcs2 hms2 hb2 hcs1 hms1 hbl;go_wp2_with fail
  refine(Aa HWR).mono ?_;rintro e w3 ⟨rfl,hb3⟩;go_wp2;go_ret2;exact⟨rfl,(hB2.alloc hs2 _).trans (hb3.mono (by simp;omega))⟩
 ·have h1':(P1 != 0)=true:=by simpa using h1
  have hno:=Aa HNO h1;subst hno;clear h1;go_enter Tryz.func44,Tryz.ntmps44;go_wp2_with fail
  refine(Aa HRD _).mono ?_;rintro e w1 ⟨a1,n1,c1,a2,n2,c2,rfl,-,hb1⟩;have hs1:=hb1.size;have hB1:=(hb1.alloc hs1 (O1 a1 n1 c1 a2 n2 c2)).alloc (by simp;omega) (O8 P1 P2 P3);go_wp2
  go_quiet (fail)
  go_wp2;go_ret2;exact⟨rfl,⟨hB1.os,hB1.tape,hB1.output,hB1.size,hB1.block⟩⟩
def TyR (w:World) (v:Value) (l:List (Int × Int)):Prop :=
 (v=.slice none 0 0∧l=[])∨∃ g o c cur,v=.slice (some ⟨g,o,none⟩) l.length c∧w.heap[g]?=some (.cells cur 31 (0,0))∧l.length≤c∧c≤maxLen∧∀ j x,(Ak l)[j]?=some x→w.cell? ⟨g,o+j,none⟩=some x
theorem TyR.nil (w:World):TyR w (.slice none 0 0) []:=.inl ⟨rfl,rfl⟩
theorem TyR.of_tys {w:World}{b:Nat}{v:Value}{l:List (Int × Int)} (h:TysAt w b v l):TyR w v l:=by
 obtain⟨hl,⟨hv,hn⟩|⟨g,cap,cur,hv,hb,hg,hlen,hm,hsz,htk⟩⟩:=h
 ·exact .inl ⟨hv,List.eq_nil_of_length_eq_zero hn⟩
 ·refine .inr ⟨g,0,cap,cur,hv,hg,hlen,hm,fun j u hu=>?_⟩;have hj:j<(Ak l).length:=(List.getElem?_eq_some_iff.1 hu).1;rw[Nat.zero_add,Ab hg,← hu,← htk,List.getElem?_take,if_pos (by rw[hl]at hj;exact hj)]
  simp
theorem TyR.below {w w':World}{v:Value}{l:List (Int × Int)} (h:TyR w v l) (hb:Below w.heap.size w w'):TyR w' v l:=by
 rcases h with h|⟨g,o,c,cur,hv,hg,h1,h2,h3⟩
 ·exact .inl h
 ·exact .inr ⟨g,o,c,cur,hv,(hb.block g (lt_of_block hg)).trans hg,h1,h2,fun j x hx=>by rw[hb.cell (p:=⟨g,o+j,none⟩) (lt_of_block hg)];exact h3 j x hx⟩
theorem TyR.shape {w:World}{v:Value}{l:List (Int × Int)} (h:TyR w v l):∃ a c,v=.slice a l.length c:=by
 rcases h with ⟨rfl,rfl⟩|⟨g,o,c,cur,hv,_⟩
 ·exact⟨none,0,rfl⟩
 ·exact⟨_,c,hv⟩
theorem TyR.cap {w:World}{a:Option Addr}{n c:Nat}{l:List (Int × Int)} (h:TyR w (.slice a n c) l):n=l.length∧l.length≤c∧c≤maxLen:=by
 rcases h with ⟨h1,rfl⟩|⟨g,o,c',cur,hv,_,h1,h2,_⟩
 ·simp only[Value.slice.injEq]at h1;obtain⟨_,rfl,rfl⟩:=h1;exact⟨rfl,Nat.le_refl _,Nat.zero_le _⟩
 ·simp only[Value.slice.injEq]at hv;obtain⟨_,rfl,rfl⟩:=hv;exact⟨rfl,h1,h2⟩
theorem TyR.at {w:World}{a:Option Addr}{n c:Nat}{l:List (Int × Int)} (h:TyR w (.slice a n c) l) (hn:0<l.length) :
  ∃ g o,a=some ⟨g,o,none⟩∧g<w.heap.size∧∀ k (hk:k<l.length),w.cell? ⟨g,o+k*2,none⟩=some (.int .i64 l[k].1)∧w.cell? ⟨g,o+k*2+1,none⟩=some (.int .i64 l[k].2):=by
 rcases h with ⟨_,rfl⟩|⟨g,o,c',cur,hv,hg,_,_,h3⟩
 ·simp at hn
 ·simp only[Value.slice.injEq]at hv;refine⟨g,o,hv.1,lt_of_block hg,fun k hk=>?_⟩;obtain⟨e1,e2,_⟩:=Co l k hk;exact⟨h3 _ _ e1,by rw[Nat.add_assoc];exact h3 _ _ e2⟩
theorem Pa (l:List (Int × Int)) (k:Nat):Ak (l.take k)=(Ak l).take (k*2):=by
 induction l generalizing k with
 | nil=>simp[Ak]
 | cons x r ih =>
  cases k with
  | zero=>simp[Ak]
  | succ j =>
   have e:Ak (x::r)=.int .i64 x.1 :: .int .i64 x.2::Ak r:=by simp[Ak]
   have e':Ak (x::r.take j)=.int .i64 x.1 :: .int .i64 x.2::Ak (r.take j):=by simp[Ak]
   rw[List.take_succ_cons,e,e',ih,show (j+1)*2=j*2+1+1 by omega,List.take_succ_cons,List.take_succ_cons]
theorem TyR.new1 (w:World) (k n:Int):TyR (w.alloc (O7 k n)) (.slice (some ⟨w.heap.size,0,none⟩) 1 1) [(k,n)]:=by
 refine .inr ⟨w.heap.size,0,1,_,rfl,Ad w _,by simp,by unfold maxLen;omega,fun j x hx=>?_⟩;rw[Ab (Ad w _),Nat.zero_add]
 simpa[Ak] using hx
theorem TyR.new2 (w:World) (k n k' n':Int):TyR (w.alloc (O16 k n k' n')) (.slice (some ⟨w.heap.size,0,none⟩) 2 2) [(k,n),(k',n')]:=by
 refine .inr ⟨w.heap.size,0,2,_,rfl,Ad w _,by simp,by unfold maxLen;omega,fun j x hx=>?_⟩;rw[Ab (Ad w _),Nat.zero_add]
 simpa[Ak] using hx
theorem Dy {w:World}{ops:Array Oper}{rest:List Oper}{o:Oper}{a:Act}{Q:Exit→Act→World→Prop} (hgd:o.guard=none) (s x:Operand)
  (ho:o.op=.call { callee:=.builtin .append,args:=#[s,x],argTypes:=#[105,105] })
  (base:Nat) (v:Value) (xs ys:List (Int × Int)) (va:Option Addr) (vl vc:Nat) (hs:a.eval s=v) (hown:w.ownsRow base 31 2 v xs.length (Ak xs)) (hx:a.eval x=.slice va vl vc) (hy:TyR w (.slice va vl vc) ys)
  (h1:xs.length+ys.length≤100000) (hbase:base≤w.heap.size)
  (h:∀ v' w',w'.ownsRow base 31 2 v' (xs++ys).length (Ak (xs++ys))→w.grownBy w' v.ownBlock→wpList Tryz.prog ops Q rest (a.put o.dst v') w'):wpList Tryz.prog ops Q (o::rest) a w:=by
 obtain⟨i0,hi,hz0,hz1,hz2⟩:=info_parts Tryz.infoType;rcases hy with ⟨hv,rfl⟩|⟨g,of,c,cur,hv,hg,hc,hm,h3⟩
 ·refine wpList_append_own_none hgd s x _ ho base 31 i0 2 Tryz.underlying105 hi v _ _ hs hown (hx.trans hv) ?_;exact h v w (by simpa using hown) (World.grownBy.refl _ _)
 ·refine wpList_append_own w hgd s x _ ho base 31 i0 _ 2 16 Tryz.underlying105 hi hz0 hz1 hz2 rfl (by omega) v _ _ hs hown ⟨g,of,none⟩ ys.length c (Ak ys) (hx.trans hv) (Hi ys) ?_ (Sd ys) (by unfold maxLen;omega) (by omega) hbase ?_
  ·intro j u hu;rw[Addr.add_lit];exact h3 j u hu
  ·intro v' w' ho' hg' _;exact h v' w' (by rw[List.length_append,D9];exact ho') hg'
structure Zx where
 locals:List (Int × Int)
 stack:List (Int × Int)
def Abq (r:Int × Int):List (Int × Int):=if r.1=0 then [] else [r]
def Aa1 (a b:Int × Int) (l:List (Int × Int)):List (Int × Int):=l.map fun x=>if x=a then b else x
def Adm (T:List Int):List (Int × Int)→List (Int × Int)→Bool
 | _,[]=>true
 | [],_::_=>false
 | s::ss,t::ts=>Tr.rfits T s.1 s.2 t.1 t.2&&Adm T ss ts
def Acf (T:List Int) (st want:List (Int × Int)):Bool:=if st.length<want.length then false else Adm T (st.drop (st.length-want.length)) want
def Aae (T:List Int) (a b:Zx):Bool :=
 if a.stack.length≠b.stack.length then false else if a.locals.length≠b.locals.length then false else Acf T a.locals b.locals&&Acf T a.stack b.stack
theorem A8 {B n:Nat}{a w:World} (h:Below B a w):Below B a (w.drewN n):=⟨h.os,h.tape,h.output,h.size,h.block⟩
theorem Pb (a b:Int × Int) (l:List (Int × Int)) (q:Nat) (hq:q<l.length):Aa1 a b (l.take (q+1))=Aa1 a b (l.take q)++[if l[q]=a then b else l[q]]:=by
 unfold Aa1;rw[List.take_succ_eq_append_getElem hq,List.map_append];rfl
theorem Ee {w:World}{b:Nat}{v:Value}{l:List (Int × Int)}{n:Nat} (h:w.ownsRow b 31 2 v n (Ak l)) (hn:n=l.length):TyR w v l:=by
 subst hn;exact TyR.of_tys h
structure FrV where
 la:Option Addr
 ln:Nat
 lc:Nat
 sa:Option Addr
 sn:Nat
 sc:Nat
def FrV.val (v:FrV):Value:=.agg #[.slice v.la v.ln v.lc,.slice v.sa v.sn v.sc]
structure FrV.is (v:FrV) (x:Zx) (w:World):Prop where
 lo:TyR w (.slice v.la v.ln v.lc) x.locals
 st:TyR w (.slice v.sa v.sn v.sc) x.stack
 hl:x.locals.length≤5000
 hs:x.stack.length≤5000
theorem FrV.is.below {v:FrV}{x:Zx}{w w':World} (h:v.is x w) (hb:Below w.heap.size w w'):v.is x w':=⟨h.lo.below hb,h.st.below hb,h.hl,h.hs⟩
def Aan (op:Int):Bool:=decide (op=11∨op=12∨op=13∨op=14)
def Aa4 (op:Int):Bool:=decide (¬ (op=11∨op=22∨op=23))
def Ab2 (p:Int):List Rd.Mp→Option Zx
 | []=>none
 | m::r=>if m.place=p then some ⟨m.locals,m.stack⟩ else Ab2 p r
def Aap (x:Option Zx):Zx:=x.getD ⟨[],[]⟩
def Aep (cl:Int) (ps:List (Int × Int)):List (Int × Int):=(if cl=255 then [] else [(3,cl)])++ps
def Adv (cl:Int) (ps:List (Int × Int)) (lo:Nat):Zx:=⟨Aep cl ps++List.replicate (lo-(Aep cl ps).length) (0,0),[]⟩
def Acb (F:List Rf.Fld) (ms:List Rd.Mth) (res:Int × Int) (op n:Int):List (Int × Int) :=
 if op=7∨op=8∨op=9∨op=10∨op=13 then [(1,0),(1,0)] else if op=12∨op=25 then [(1,0)] else if op=14∨op=19 then [(3,0)]
 else if op=17 then [(3,(F.getD n.toNat ⟨0,0,(0,0)⟩).owner)] else if op=18 then [(3,(F.getD n.toNat ⟨0,0,(0,0)⟩).owner),(F.getD n.toNat ⟨0,0,(0,0)⟩).t]
 else if op=20 then (ms.getD n.toNat ⟨0,0,[],(0,0),0,0,[],[],[]⟩).params else if op=21 then (3,(ms.getD n.toNat ⟨0,0,[],(0,0),0,0,[],[],[]⟩).cl)::(ms.getD n.toNat ⟨0,0,[],(0,0),0,0,[],[],[]⟩).params
 else if op=22 then Abq res else if op=23 then [(3,1)] else []
def Abw (F:List Rf.Fld) (ms:List Rd.Mth) (op n:Int):List (Int × Int) :=
 if op=0∨op=7∨op=8∨op=9∨op=10∨op=24 then [(1,0)] else if op=1 then [(2,0)] else if op=17 then [(F.getD n.toNat ⟨0,0,(0,0)⟩).t]
 else if op=19 then [(3,n)] else if op=20∨op=21 then Abq (ms.getD n.toNat ⟨0,0,[],(0,0),0,0,[],[],[]⟩).result else []
def Ae3 (T:List Int) (want:List (Int × Int)) (arg:Int→Int) (c:Int) (x:Zx):Option Zx :=
 if Acf T x.stack want=false then none else if x.stack.length<want.length+1 then none
 else if (x.stack.getD (x.stack.length-want.length-1) (0,0)).1≠4 then none
 else if arg (x.stack.getD (x.stack.length-want.length-1) (0,0)).2≠c then none
 else some ⟨Aa1 (x.stack.getD (x.stack.length-want.length-1) (0,0)) (3,c) x.locals,Aa1 (x.stack.getD (x.stack.length-want.length-1) (0,0)) (3,c) (x.stack.take (x.stack.length-want.length-1))⟩
def Ad6 (T:List Int) (F:List Rf.Fld) (ms:List Rd.Mth) (want:Int→List (Int × Int)) (arg:Int→Int) (res:Int × Int) (p op n:Int) (x:Zx):Option Zx :=
 if op=2 then (if (x.locals.getD n.toNat (0,0)).1=0 then none else some ⟨x.locals,x.stack++[x.locals.getD n.toNat (0,0)]⟩)
 else if op=3 then (if x.stack.length<1 then none else some ⟨x.locals.set n.toNat (x.stack.getD (x.stack.length-1) (0,0)),x.stack.take (x.stack.length-1)⟩)
 else if op=4 then (if x.stack.length<1 then none else some ⟨x.locals,x.stack.take (x.stack.length-1)⟩)
 else if op=5 then (if x.stack.length<1 then none else some ⟨x.locals,x.stack++x.stack.drop (x.stack.length-1)⟩)
 else if op=6 then (if x.stack.length<2 then none else some ⟨x.locals,x.stack.take (x.stack.length-2)++[x.stack.getD (x.stack.length-1) (0,0),x.stack.getD (x.stack.length-2) (0,0)]⟩)
 else if op=15 then some ⟨Aa1 (4,p) (0,0) x.locals,Aa1 (4,p) (0,0) x.stack++[(4,p)]⟩
 else if op=16 then Ae3 T (want n) arg n x
 else if Acf T x.stack (Acb F ms res op n)=false then none
 else some ⟨x.locals,x.stack.take (x.stack.length-(Acb F ms res op n).length)++Abw F ms op n⟩
theorem Rk (l:List (Int × Int)) (q:Nat) (t1 t2:Int):Ak (l.set q (t1,t2))=((Ak l).set (q*2) (.int .i64 t1)).set (q*2+1) (.int .i64 t2):=by
 induction l generalizing q with
 | nil=>simp[Ak]
 | cons x r ih =>
  have e:∀ (y:Int × Int) (s:List (Int × Int)),Ak (y::s)=.int .i64 y.1 :: .int .i64 y.2::Ak s:=fun y s=>by simp[Ak]
  cases q with
  | zero=>rw[List.set_cons_zero,e,e];rfl
  | succ j=>rw[List.set_cons_succ,e,e,ih,show (j+1)*2=j*2+1+1 by omega];rfl
theorem Gv {w:World}{b:Nat}{a:Option Addr}{n c:Nat}{l:List (Int × Int)} (h:TysAt w b (.slice a n c) l) {q:Nat} (hq:q<l.length) (t1 t2:Int) :
  ∃ g,a=some ⟨g,0,none⟩∧g<w.heap.size∧b≤g∧w.cell? ⟨g,q*2,none⟩=some (.int .i64 l[q].1)∧w.cell? ⟨g,q*2+1,none⟩=some (.int .i64 l[q].2)∧w.frozen? ⟨g,q*2,none⟩=false∧w.frozen? ⟨g,q*2+1,none⟩=false ∧
   TysAt ((w.setCell ⟨g,q*2,none⟩ (.int .i64 t1)).setCell ⟨g,q*2+1,none⟩ (.int .i64 t2)) b (.slice a n c) (l.set q (t1,t2)):=by
 obtain⟨g',o',ha',_,hat⟩:=(TyR.of_tys h).at (by omega);obtain⟨hl,⟨hv,hn⟩|⟨g,cap,cur,hv,hb,hg,hlen,hm,hsz,htk⟩⟩:=h
 ·omega
 ·simp only[Value.slice.injEq]at hv;obtain⟨rfl,rfl,rfl⟩:=hv;simp only[Option.some.injEq,Addr.mk.injEq]at ha';obtain⟨rfl,rfl,-⟩:=ha';obtain⟨c0,c1⟩:=hat q hq;simp only[Nat.zero_add]at c0 c1;refine⟨g,rfl,lt_of_block hg,hb,c0,c1,Af hg _,Af hg _,?_⟩;refine⟨by rw[Hi],.inr ⟨g,c,_,by rw[List.length_set],hb,Al (Al hg _) _,by rw[List.length_set];exact hlen,hm,by simpa using hsz,?_⟩⟩;rw[List.length_set,Rk,← htk];simp only[Array.toList_setIfInBounds];rw[List.take_set,List.take_set]
theorem TyR.set_frame {w:World}{v:Value}{l:List (Int × Int)}{z:Nat}{a1 a2:Option Addr}{n1 c1 n2 c2:Nat}{ty:TypeId} (h:TyR w v l) (hz:w.heap[z]?=some (.cells #[.slice a1 n1 c1,.slice a2 n2 c2] ty (0,0))) (s t:Value):TyR ((w.setCell ⟨z,0,none⟩ s).setCell ⟨z,1,none⟩ t) v l:=by
 rcases h with h|⟨g,o,c,cur,hv,hg,h1,h2,h3⟩
 ·exact .inl h
 ·obtain⟨cur',hg'⟩:∃ cur',((w.setCell ⟨z,0,none⟩ s).setCell ⟨z,1,none⟩ t).heap[g]?=some (.cells cur' 31 (0,0)):=by
   by_cases e:g=z
   ·subst e;have e2:=hg.symm.trans hz;simp only[Option.some.injEq,Obj.cells.injEq]at e2;obtain⟨_,rfl,_⟩:=e2;exact⟨_,Al (Al hz s) t⟩
   ·exact⟨cur,((Below.heap_setCell _ _ _ _ (by simpa using e)).trans (Below.heap_setCell _ _ _ _ (by simpa using e))).trans hg⟩
  refine .inr ⟨g,o,c,cur',hv,hg',h1,h2,fun j x hx=>?_⟩;have hne:g≠z:=by
   intro e;subst e;have h4:=h3 j x hx;rw[Ab hz]at h4;have hint:∃ k,x=Value.int .i64 k:=by
    have:=List.mem_of_getElem? hx;simp only[Ak,List.mem_flatMap,List.mem_cons,List.not_mem_nil,or_false]at this;obtain⟨y,_,rfl | rfl⟩:=this<;>exact⟨_,rfl⟩
   obtain⟨k,rfl⟩:=hint;generalize o+j=i at h4
   match i,h4 with
   | 0,h4=>simp at h4
   | 1,h4=>simp at h4
   | i+2,h4=>simp at h4
  rw[World.cell?_setCell_other _ _ _ _ (by intro e;exact hne (congrArg Addr.block e).symm),World.cell?_setCell_other _ _ _ _ (by intro e;exact hne (congrArg Addr.block e).symm)];exact h3 j x hx
theorem Qr (F:List Rf.Fld) (ms:List Rd.Mth) (op n:Int):(Abw F ms op n).length≤1:=by
 have hr:∀ res,(Abq res).length≤1:=fun res=>by unfold Abq;split<;>simp
 unfold Abw
 split
 ·simp
 ·split
  ·simp
  ·split
   ·simp
   ·split
    ·simp
    ·split
     ·exact hr _
     ·simp
def Abt (st:Int) (y:Option Zx):Option Zx:=y.bind fun z=>if (z.stack.length:Int)≤st then some z else none
def Acl (T:List Int) (mp:Int→Option Zx) (p:Int) (lo:List (Int × Int)):List Rd.Hnd→Int
 | []=>0
 | h::r=>if p<h.frm then Acl T mp p lo r else if h.til≤p then Acl T mp p lo r
  else if (mp h.target).isSome=false then 8 else if Aae T ⟨lo,[(3,h.cl)]⟩ (Aap (mp h.target))=false then 9 else Acl T mp p lo r
def Ac4 (T:List Int) (tk lv want:List (Int × Int)) (arg:Int→Int) (p op n:Int) (x:Zx):Option Zx :=
 if op=2 then (if (x.locals.getD n.toNat (0,0)).1=0 then none else some ⟨x.locals,x.stack++[x.locals.getD n.toNat (0,0)]⟩)
 else if op=3 then (if x.stack.length<1 then none else some ⟨x.locals.set n.toNat (x.stack.getD (x.stack.length-1) (0,0)),x.stack.take (x.stack.length-1)⟩)
 else if op=4 then (if x.stack.length<1 then none else some ⟨x.locals,x.stack.take (x.stack.length-1)⟩)
 else if op=5 then (if x.stack.length<1 then none else some ⟨x.locals,x.stack++x.stack.drop (x.stack.length-1)⟩)
 else if op=6 then (if x.stack.length<2 then none else some ⟨x.locals,x.stack.take (x.stack.length-2)++[x.stack.getD (x.stack.length-1) (0,0),x.stack.getD (x.stack.length-2) (0,0)]⟩)
 else if op=15 then some ⟨Aa1 (4,p) (0,0) x.locals,Aa1 (4,p) (0,0) x.stack++[(4,p)]⟩
 else if op=16 then Ae3 T want arg n x
 else if Acf T x.stack tk=false then none
 else some ⟨x.locals,x.stack.take (x.stack.length-tk.length)++lv⟩
theorem Gn (T:List Int) (F:List Rf.Fld) (ms:List Rd.Mth) (want:Int→List (Int × Int)) (arg:Int→Int) (res:Int × Int) (p op n:Int) (x:Zx) :
  Ad6 T F ms want arg res p op n x=Ac4 T (Acb F ms res op n) (Abw F ms op n) (want n) arg p op n x:=rfl
structure Aam where
 lo:List (Int × Int)
 st:List (Int × Int)
 br:Bool
def Zz (b:Aam):(Int × Int) × Aam :=
 if b.st.length=0 then ((0,0),⟨b.lo,b.st,true⟩) else (b.st.getD (b.st.length-1) (0,0),⟨b.lo,b.st.take (b.st.length-1),b.br⟩)
def Aeo (T:List Int) (t x:Int × Int) (b:Aam):Aam:=if Tr.fitsB T t.1 t.2 x.1 x.2=true then b else ⟨b.lo,b.st,true⟩
def Abg (T:List Int) (l:List (Int × Int)):Nat→Aam→Aam
 | 0,b=>b
 | i+1,b=>Abg T l i (Aeo T (Zz b).1 (l.getD i (0,0)) (Zz b).2)
def Abk (T:List Int) (l:List (Int × Int)) (b:Aam):Aam:=Abg T l l.length b
def Aaw (hi:Int) (t:Int × Int) (b:Aam):Aam:=if hi≤(b.st.length:Int) then ⟨b.lo,b.st,true⟩ else ⟨b.lo,b.st++[t],b.br⟩
def Abn (hi:Int):List (Int × Int)→Aam→Aam
 | [],b=>b
 | t::r,b=>Abn hi r (Aaw hi t b)
def Aeu (hi n:Int) (b:Aam):Aam :=
 if n<0 then ⟨b.lo,b.st,true⟩ else if (b.lo.length:Int)≤n then ⟨b.lo,b.st,true⟩ else if (b.lo.getD n.toNat (0,0)).1=0 then ⟨b.lo,b.st,true⟩ else Aaw hi (b.lo.getD n.toNat (0,0)) b
def Aen (n:Int) (b:Aam):Aam :=
 if n<0 then ⟨b.lo,(Zz b).2.st,true⟩ else if (b.lo.length:Int)≤n then ⟨b.lo,(Zz b).2.st,true⟩ else ⟨b.lo.set n.toNat (Zz b).1,(Zz b).2.st,(Zz b).2.br⟩
def Ac8 (old fresh:Int × Int) (b:Aam):Aam:=⟨Aa1 old fresh b.lo,Aa1 old fresh b.st,b.br⟩
def Afe (hi:Int) (b:Aam):Aam:=Aaw hi (Zz (Zz b).2).1 (Aaw hi (Zz b).1 (Zz (Zz b).2).2)
def Afg (hi:Int) (b:Aam):Aam:=Aaw hi (Zz b).1 (Aaw hi (Zz b).1 (Zz b).2)
def Ad8 (isNew:Int→Bool) (c:Int) (t:Int × Int) (b:Aam):Aam :=
 if t.1≠4 then ⟨b.lo,b.st,true⟩ else if isNew t.2=false then ⟨b.lo,b.st,true⟩ else Ac8 t (3,c) b
def Ae2 (T:List Int) (want:List (Int × Int)) (isNew:Int→Bool) (c:Int) (b:Aam):Aam :=
 Ad8 isNew c (Zz (Abk T want b)).1 (Zz (Abk T want b)).2
def Aa6 (b:Aam):Option Zx:=if b.br=true then none else some ⟨b.lo,b.st⟩
def Aex (T:List Int) (hi:Int) (tk lv want:List (Int × Int)) (isNew:Int→Bool) (p op n:Int) (b:Aam):Aam :=
 if op=2 then Aeu hi n b else if op=3 then Aen n b else if op=4 then (Zz b).2 else if op=5 then Afg hi b else if op=6 then Afe hi b
 else if op=15 then Aaw hi (4,p) (Ac8 (4,p) (0,0) b) else if op=16 then Ae2 T want isNew n b else Abn hi lv (Abk T tk b)
def Adh (T:List Int) (hi:Int) (tk lv want:List (Int × Int)) (isNew:Int→Bool) (p op n:Int) (x:Zx):Option Zx:=Aa6 (Aex T hi tk lv want isNew p op n ⟨x.locals,x.stack,false⟩)
def Aaq (T:List Int):List (Int × Int)→List (Int × Int)→Bool
 | _,[]=>true
 | [],_::_=>false
 | s::ss,t::ts=>Tr.fitsB T s.1 s.2 t.1 t.2&&Aaq T ss ts
theorem Dg {T:List Int} (hT:Tr.Ok T):∀ (a b:List (Int × Int)),(∀ t∈a,Tr.Arg T t.1 t.2)→(∀ t∈b,Tr.Arg T t.1 t.2)→Adm T a b=Aaq T a b
 | _,[],_,_=>by simp[Adm,Aaq]
 | [],_::_,_,_=>by simp[Adm,Aaq]
 | s::ss,t::ts,ha,hb=>by
  rw[Adm,Aaq,Tr.rfits_eq hT (ha s (by simp)) (hb t (by simp)),Dg hT ss ts (fun x hx=>ha x (by simp[hx])) (fun x hx=>hb x (by simp[hx]))]
theorem Ma (T:List Int) (t x:Int × Int):∀ (a b:List (Int × Int)),a.length=b.length→Aaq T (a++[t]) (b++[x])=(Aaq T a b&&Tr.fitsB T t.1 t.2 x.1 x.2)
 | [],[],_=>by simp[Aaq]
 | [],_::_,h=>by simp at h
 | _::_,[],h=>by simp at h
 | s::ss,y::ys,h=>by
  simp only[List.cons_append,Aaq];rw[Ma T t x ss ys (by simpa using h),Bool.and_assoc]
theorem Pw (b:Aam):(Zz b).2.lo=b.lo:=by unfold Zz;split<;>rfl
theorem Nz (T:List Int) (t x:Int × Int) (b:Aam):(Aeo T t x b).lo=b.lo∧(Aeo T t x b).st=b.st∧(Aeo T t x b).br=(b.br || !Tr.fitsB T t.1 t.2 x.1 x.2):=by
 unfold Aeo;cases Tr.fitsB T t.1 t.2 x.1 x.2<;>simp
theorem Qg {α:Type} (l:List α) (d:α) (h:l.length≠0):l=l.take (l.length-1)++[l.getD (l.length-1) d]:=by
 have hk:l.length-1<l.length:=by omega
 have:=List.take_succ_eq_append_getElem hk;rw[show l.length-1+1=l.length by omega,List.take_length]at this;rw[List.getD_eq_getElem?_getD,List.getElem?_eq_getElem hk];exact this
theorem Lo (T:List Int) (l:List (Int × Int)):∀ (k:Nat) (b:Aam),b.br=true→(Abg T l k b).br=true
 | 0,b,h=>h
 | k+1,b,h=>by
  unfold Abg;refine Lo T l k _ ?_;rw[(Nz _ _ _ _).2.2];have:(Zz b).2.br=true:=by unfold Zz;split<;>simp[h]
  rw[this];rfl
theorem Io (T:List Int) (l:List (Int × Int)):∀ (k:Nat),k≤l.length→∀ (b:Aam),(Abg T l k b).lo=b.lo ∧
  (k≤b.st.length→(Abg T l k b).st=b.st.take (b.st.length-k)∧(Abg T l k b).br=(b.br || !Aaq T (b.st.drop (b.st.length-k)) (l.take k))) ∧
  (b.st.length<k→(Abg T l k b).br=true)
 | 0,_,b=>by
  refine⟨rfl,fun _=>⟨?_,?_⟩,fun h=>by omega⟩
  ·simp[Abg]
  ·simp[Abg,Aaq]
 | k+1,hk,b=>by
  have hkl:k<l.length:=by omega
  unfold Abg;obtain⟨i1,i2,i3⟩:=Io T l k (by omega) (Aeo T (Zz b).1 (l.getD k (0,0)) (Zz b).2);obtain⟨f1,f2,f3⟩:=Nz T (Zz b).1 (l.getD k (0,0)) (Zz b).2;rw[f1,Pw]at i1;rw[f2,f3]at i2;rw[f2]at i3;by_cases h0:b.st.length=0
  ·refine⟨i1,fun h=>by omega,fun _=>?_⟩;have e:Zz b=((0,0),⟨b.lo,b.st,true⟩):=by unfold Zz;rw[if_pos h0]
   refine Lo _ _ _ _ ?_;rw[f3,e];rfl
  ·have e:Zz b=(b.st.getD (b.st.length-1) (0,0),⟨b.lo,b.st.take (b.st.length-1),b.br⟩):=by unfold Zz;rw[if_neg h0]
   rw[e]at i1 i2 i3 ⊢;simp only at i1 i2 i3 ⊢;have hlen:(b.st.take (b.st.length-1)).length=b.st.length-1:=by simp
   rw[hlen]at i2 i3;refine⟨i1,fun h=>?_,fun h=>i3 (by omega)⟩;obtain⟨j1,j2⟩:=i2 (by omega);refine⟨?_,?_⟩
   ·rw[j1,List.take_take]
    congr 1;omega
   ·rw[j2];have hs:=Qg b.st (0,0) h0;have hd:b.st.drop (b.st.length-(k+1))=(b.st.take (b.st.length-1)).drop (b.st.length-1-k)++[b.st.getD (b.st.length-1) (0,0)]:=by
     conv=>lhs;rw[hs]
     rw[List.length_append,hlen,List.drop_append_of_le_length (by rw[hlen];simp)]
     congr 2
     simp only[List.length_singleton];omega
    have hl:l.take (k+1)=l.take k++[l.getD k (0,0)]:=by
     rw[List.take_succ_eq_append_getElem hkl,List.getD_eq_getElem?_getD,List.getElem?_eq_getElem hkl];rfl
    rw[hd,hl,Ma _ _ _ _ _ (by simp;omega)];cases b.br<;>cases Aaq T (List.drop (b.st.length-1-k) (List.take (b.st.length-1) b.st)) (List.take k l)<;>simp
theorem Hz {T:List Int} (hT:Tr.Ok T) (l:List (Int × Int)) (b:Aam) (hb:∀ t∈b.st,Tr.Arg T t.1 t.2) (hl:∀ t∈l,Tr.Arg T t.1 t.2) :
  (Abk T l b).lo=b.lo∧(Acf T b.st l=true→(Abk T l b).st=b.st.take (b.st.length-l.length)∧(Abk T l b).br=b.br)∧(Acf T b.st l=false→(Abk T l b).br=true):=by
 obtain⟨h1,h2,h3⟩:=Io T l l.length (Nat.le_refl _) b;unfold Abk Acf;refine⟨h1,fun h=>?_,fun h=>?_⟩
 ·by_cases hn:b.st.length<l.length
  ·rw[if_pos hn]at h;cases h
  ·rw[if_neg hn,Dg hT _ _ (fun t ht=>hb t (List.mem_of_mem_drop ht)) hl]at h;obtain⟨g1,g2⟩:=h2 (by omega);refine⟨g1,?_⟩;rw[g2,List.take_length,h];simp
 ·by_cases hn:b.st.length<l.length
  ·exact h3 hn
  ·rw[if_neg hn,Dg hT _ _ (fun t ht=>hb t (List.mem_of_mem_drop ht)) hl]at h;obtain⟨g1,g2⟩:=h2 (by omega);rw[g2,List.take_length,h];simp
theorem Dp {hi:Int}{t:Int × Int}{b:Aam} (h:b.br=true):(Aaw hi t b).br=true:=by unfold Aaw;split<;>simp[h]
theorem Iq {hi:Int}:∀ {l:List (Int × Int)}{b:Aam},b.br=true→(Abn hi l b).br=true
 | [],_,h=>h
 | _::r,_,h=>Iq (l:=r) (Dp h)
theorem Pz {b:Aam} (h:b.br=true):(Zz b).2.br=true:=by unfold Zz;split<;>simp[h]
theorem Gt {b:Aam} (h:b.br=true):Aa6 b=none:=by unfold Aa6;rw[if_pos h]
theorem Za {b:Aam} (h:b.br=false):Aa6 b=some ⟨b.lo,b.st⟩:=by unfold Aa6;rw[h];rfl
theorem Bo (a b:Int × Int) (l:List (Int × Int)):(Aa1 a b l).length=l.length:=by simp[Aa1]
theorem Tw {T:List Int} (hT:Tr.Ok T) (hi:Int) (tk lv want:List (Int × Int)) (isNew:Int→Bool) (arg:Int→Int) (p op n:Int) (x:Zx)
  (hs:∀ t∈x.stack,Tr.Arg T t.1 t.2) (htk:∀ t∈tk,Tr.Arg T t.1 t.2) (hwant:∀ t∈want,Tr.Arg T t.1 t.2) (hlv:lv.length≤1) (hhi:(x.stack.length:Int)≤hi)
  (hn:op=2∨op=3→0≤n∧n<(x.locals.length:Int)) (hnew:op=16→∀ t∈x.stack,t.1=4→(isNew t.2=true↔arg t.2=n)) :
  Adh T hi tk lv want isNew p op n x=Abt hi (Ac4 T tk lv want arg p op n x):=by
 unfold Adh Aex Ac4;by_cases h2:op=2
 ·rw[if_pos h2,if_pos h2];obtain⟨a1,a2⟩:=hn (.inl h2);unfold Aeu;rw[if_neg (by omega),if_neg (by simpa using a2)];by_cases h0:(x.locals.getD n.toNat (0,0)).1=0
  ·rw[if_pos h0,if_pos h0];rfl
  ·rw[if_neg h0,if_neg h0];unfold Aaw Abt;by_cases hh:hi≤(x.stack.length:Int)
   ·rw[if_pos hh];simp[Aa6];omega
   ·rw[if_neg hh];simp[Aa6];omega
 rw[if_neg h2,if_neg h2];by_cases h3:op=3
 ·rw[if_pos h3,if_pos h3];obtain⟨a1,a2⟩:=hn (.inr h3);unfold Aen;rw[if_neg (by omega),if_neg (by simpa using a2)];unfold Zz;by_cases hz:x.stack.length=0
  ·rw[if_pos (show x.stack.length<1 by omega)];simp[hz,Aa6,Abt]
  ·rw[if_neg (show ¬ x.stack.length<1 by omega)];simp only[hz,if_false];simp[Aa6,Abt];omega
 rw[if_neg h3,if_neg h3];by_cases h4:op=4
 ·rw[if_pos h4,if_pos h4];unfold Zz;by_cases hz:x.stack.length=0
  ·rw[if_pos (show x.stack.length<1 by omega)];simp[hz,Aa6,Abt]
  ·rw[if_neg (show ¬ x.stack.length<1 by omega)];simp only[hz,if_false];simp[Aa6,Abt];omega
 rw[if_neg h4,if_neg h4];by_cases h5:op=5
 ·rw[if_pos h5,if_pos h5];unfold Afg Zz;by_cases hz:x.stack.length=0
  ·rw[if_pos (show x.stack.length<1 by omega)];rw[Gt (Dp (Dp (by simp[hz])))];rfl
  ·rw[if_neg (show ¬ x.stack.length<1 by omega)];simp only[hz,if_false];have hsn:=Qg x.stack (0,0) hz;have hdr:x.stack.drop (x.stack.length-1)=[x.stack.getD (x.stack.length-1) (0,0)]:=by
    conv=>lhs;rw[hsn]
    rw[List.drop_append_of_le_length (by simp)]
    simp
   rw[hdr];have e1:Aaw hi (x.stack.getD (x.stack.length-1) (0,0)) ⟨x.locals,x.stack.take (x.stack.length-1),false⟩=⟨x.locals,x.stack,false⟩:=by
    unfold Aaw;rw[if_neg (by simp;omega)];simp only[← hsn]
   rw[e1];unfold Aaw Abt;by_cases hh:hi≤(x.stack.length:Int)
   ·rw[if_pos hh];simp[Aa6];omega
   ·rw[if_neg hh];simp[Aa6];omega
 rw[if_neg h5,if_neg h5];by_cases h6:op=6
 ·rw[if_pos h6,if_pos h6];unfold Afe;by_cases hz:x.stack.length=0
  ·rw[if_pos (show x.stack.length<2 by omega)];have:(Zz ⟨x.locals,x.stack,false⟩).2.br=true:=by unfold Zz;simp[hz]
   rw[Gt (Dp (Dp (Pz this)))];rfl
  ·have e1:Zz ⟨x.locals,x.stack,false⟩=(x.stack.getD (x.stack.length-1) (0,0),⟨x.locals,x.stack.take (x.stack.length-1),false⟩):=by unfold Zz;simp only[hz,if_false]
   rw[e1];simp only;by_cases hz1:x.stack.length<2
   ·rw[if_pos hz1];have:(Zz ⟨x.locals,x.stack.take (x.stack.length-1),false⟩).2.br=true:=by unfold Zz;rw[if_pos (by simp;omega)]
    rw[Gt (Dp (Dp this))];rfl
   ·rw[if_neg hz1];have e2:Zz ⟨x.locals,x.stack.take (x.stack.length-1),false⟩=(x.stack.getD (x.stack.length-2) (0,0),⟨x.locals,x.stack.take (x.stack.length-2),false⟩):=by
     unfold Zz;rw[if_neg (by simp;omega)];simp only[List.length_take,List.take_take,List.getD_eq_getElem?_getD,List.getElem?_take];rw[show min (x.stack.length-1) x.stack.length-1=x.stack.length-2 by omega,if_pos (by omega),show min (x.stack.length-2) (x.stack.length-1)=x.stack.length-2 by omega]
    rw[e2];simp only;unfold Aaw;have l1:¬ hi≤((x.stack.take (x.stack.length-2)).length:Int):=by simp;omega
    rw[if_neg l1];have l2:¬ hi≤((x.stack.take (x.stack.length-2)++[x.stack.getD (x.stack.length-1) (0,0)]).length:Int):=by simp;omega
    simp only[l2,if_false];simp[Aa6,Abt];omega
 rw[if_neg h6,if_neg h6];by_cases h15:op=15
 ·rw[if_pos h15,if_pos h15];unfold Ac8 Aaw Abt;simp only[Bo];by_cases hh:hi≤(x.stack.length:Int)
  ·rw[if_pos hh];simp[Aa6,Bo];omega
  ·rw[if_neg hh];simp[Aa6,Bo];omega
 rw[if_neg h15,if_neg h15];by_cases h16:op=16
 ·rw[if_pos h16,if_pos h16];obtain⟨g1,g2,g3⟩:=Hz hT want ⟨x.locals,x.stack,false⟩ hs hwant;unfold Ae2 Ae3;simp only at g1 g2 g3;cases htop:Acf T x.stack want with
  | false =>
   have:∀ t (b:Aam),b.br=true→Aa6 (Ad8 isNew n t b)=none:=by
    intro t b hb;unfold Ad8 Ac8
    split
    ·rfl
    ·split
     ·rfl
     ·exact Gt hb
   rw[this _ _ (Pz (g3 htop))];simp[Abt]
  | true =>
   obtain⟨k1,k2⟩:=g2 htop;have hlw:want.length≤x.stack.length:=by
    unfold Acf at htop;by_cases h:x.stack.length<want.length
    ·rw[if_pos h]at htop;cases htop
    ·omega
   rw[if_neg (by simp)];generalize hb:Abk T want ⟨x.locals,x.stack,false⟩=b at *;obtain⟨blo,bst,bbr⟩:=b;simp only at g1 k1 k2;subst g1 k1 k2;by_cases hz:x.stack.length<want.length+1
   ·rw[if_pos hz];have e:Zz ⟨x.locals,x.stack.take (x.stack.length-want.length),false⟩=((0,0),⟨x.locals,x.stack.take (x.stack.length-want.length),true⟩):=by
     unfold Zz;rw[if_pos (by simp;omega)]
    rw[e];simp[Ad8,Aa6,Abt]
   ·rw[if_neg hz];have hix:x.stack.length-want.length-1<x.stack.length:=by omega
    have e:Zz ⟨x.locals,x.stack.take (x.stack.length-want.length),false⟩=(x.stack.getD (x.stack.length-want.length-1) (0,0),⟨x.locals,x.stack.take (x.stack.length-want.length-1),false⟩):=by
     unfold Zz;rw[if_neg (by simp;omega)];simp only[List.length_take,List.take_take,List.getD_eq_getElem?_getD,List.getElem?_take];rw[show min (x.stack.length-want.length) x.stack.length-1=x.stack.length-want.length-1 by omega,if_pos (by omega),show min (x.stack.length-want.length-1) (x.stack.length-want.length)=x.stack.length-want.length-1 by omega]
    rw[e];simp only;have hm:x.stack.getD (x.stack.length-want.length-1) (0,0)∈x.stack:=by
     rw[List.getD_eq_getElem?_getD,List.getElem?_eq_getElem hix];exact List.getElem_mem hix
    generalize x.stack.getD (x.stack.length-want.length-1) (0,0)=t at *;unfold Ad8;by_cases ht:t.1=4
    ·rw[if_neg (show ¬ t.1≠4 from fun g=>g ht),if_neg (show ¬ t.1≠4 from fun g=>g ht)];have hiff:=hnew h16 t hm ht;by_cases ha:arg t.2=n
     ·rw[hiff.2 ha,if_neg (by simp),if_neg (show ¬ arg t.2≠n from fun g=>g ha)];unfold Ac8 Abt;simp[Aa6,Bo];omega
     ·have:isNew t.2=false:=by
       cases h:isNew t.2
       ·rfl
       ·exact absurd (hiff.1 h) ha
      rw[if_pos this,if_pos ha];rfl
    ·rw[if_pos ht,if_pos ht];rfl
 rw[if_neg h16,if_neg h16];obtain⟨g1,g2,g3⟩:=Hz hT tk ⟨x.locals,x.stack,false⟩ hs htk;simp only at g1 g2 g3;cases htop:Acf T x.stack tk with
 | false=>rw[if_pos rfl,Gt (Iq (g3 htop))];rfl
 | true =>
  obtain⟨k1,k2⟩:=g2 htop;rw[if_neg (by simp)];generalize hb:Abk T tk ⟨x.locals,x.stack,false⟩=b at *;obtain⟨blo,bst,bbr⟩:=b;simp only at g1 k1 k2;subst g1 k1 k2
  match lv,hlv with
  | [],_ =>
   simp[Abn,Aa6,Abt];omega
  | [t],_ =>
   simp only[Abn,Aaw];by_cases hh:hi≤((x.stack.take (x.stack.length-tk.length)).length:Int)
   ·rw[if_pos hh];simp at hh;simp[Aa6,Abt];omega
   ·rw[if_neg hh];simp at hh;simp[Aa6,Abt];omega
def Aa8 (n:Int):List (List (Int × Int))→Int→Int→Int × Int
 | [],_,_=>(-1,0)
 | own::r,c,f=>if f≤n∧n-f<(own.length:Int) then (c,n-f) else Aa8 n r (c+1) (f+(own.length:Int))
def Ad1 (fs:List (List (Int × Int))) (c:Int):List (Int × Int):=if c<0 then [] else fs.getD c.toNat []
def Acq (fs:List (List (Int × Int))) (n:Int):Int × (Int × Int) :=
 if (Aa8 n fs 0 0).2<0 then (-1,(0,0)) else if ((Ad1 fs (Aa8 n fs 0 0).1).length:Int)≤(Aa8 n fs 0 0).2 then (-1,(0,0))
 else ((Aa8 n fs 0 0).1,(Ad1 fs (Aa8 n fs 0 0).1).getD (Aa8 n fs 0 0).2.toNat (0,0))
def Abb (T:List Int) (fs:List (List (Int × Int))) (c:Int):Nat→List (Int × Int)
 | 0=>[]
 | d+1=>Abb T fs c d++(if Tr.within T c (d:Int)=true then fs.getD d [] else [])
def Aba (T:List Int) (fs:List (List (Int × Int))) (c:Int):List (Int × Int):=Abb T fs c fs.length
theorem Qu {T:List Int} (hT:Tr.Ok T) {a b:Int} (ha:0≤a) (hl:a<(T.length:Int)) (hb:0≤b):Tr.within T a b=Tr.rbel T a b:=by
 refine Bool.eq_iff_iff.2 ?_;rw[Tr.rbel_iff hT ha hl hb];unfold Tr.within Tr.At;simp only[Bool.or_eq_true,beq_iff_eq];exact⟨fun h=>h.imp Eq.symm id,fun h=>h.imp Eq.symm id⟩
theorem Tm {T:List Int} (hT:Tr.Ok T) {a b:Int} (ha:0≤a) (hl:a<(T.length:Int)) (hb:a<b):Tr.within T a b=false:=by
 unfold Tr.within;cases h:Tr.below T a b
 ·simp;omega
 ·have:=Tr.below_lt hT (by omega) hl h;omega
theorem Ir {T:List Int} (hT:Tr.Ok T) (cs:List Rd.Cls) {c:Int} (h0:0≤c) (hl:c<(T.length:Int)):∀ d:Nat,Abb T (cs.map Rd.Cls.fields) c d=Rf.allTo T cs c d
 | 0=>rfl
 | d+1=>by
  rw[Abb,Rf.allTo,Ir hT cs h0 hl d,Qu hT h0 hl (by omega)]
  congr 2
  rw[List.getD_eq_getElem?_getD,List.getD_eq_getElem?_getD,List.getElem?_map];cases cs[d]? <;> rfl
theorem Is {T:List Int} (hT:Tr.Ok T) (fs:List (List (Int × Int))) {c:Nat} (hl:(c:Int)<(T.length:Int)):∀ d:Nat,Abb T fs (c:Int) (c+1+d)=Abb T fs (c:Int) (c+1)
 | 0=>rfl
 | d+1=>by
  rw[← Nat.add_assoc,Abb,Is hT fs hl d,Tm hT (by omega) hl (by omega)]
  simp
theorem Pl {T:List Int} (hT:Tr.Ok T) (cs:List Rd.Cls) (hcs:cs.length=T.length) {c:Nat} (hl:c<T.length):Aba T (cs.map Rd.Cls.fields) (c:Int)=Rf.all T cs c:=by
 unfold Aba Rf.all;rw[← Ir hT cs (by omega) (by omega),List.length_map];have:=Is hT (cs.map Rd.Cls.fields) (c:=c) (by omega) (cs.length-(c+1));rw[show c+1+(cs.length-(c+1))=cs.length by omega]at this;exact this
theorem Jq (c base:Int) (own:List (Int × Int)):∀ (k i:Nat),i<k→(Rf.ownTo c base own k).getD i ⟨0,0,(0,0)⟩=⟨c,base+(i:Int),own.getD i (0,0)⟩
 | 0,_,h=>by omega
 | k+1,i,h=>by
  rw[Rf.ownTo];by_cases hi:i<k
  ·rw[List.getD_eq_getElem?_getD,List.getElem?_append_left (by rw[Ew];exact hi),← List.getD_eq_getElem?_getD];exact Jq c base own k i hi
  ·have:i=k:=by omega
   subst this;rw[List.getD_eq_getElem?_getD,List.getElem?_append_right (by rw[Ew];omega),Ew]
   simp
def Rf.fieldsAt (T:List Int) (cs:List Rd.Cls):Nat→Nat→List Rf.Fld
 | _,0=>[]
 | c,j+1=>Rf.ownOf T cs c++Rf.fieldsAt T cs (c+1) j
theorem Hq (T:List Int) (cs:List Rd.Cls):∀ (j c:Nat),Rf.fieldsAt T cs c (j+1)=Rf.fieldsAt T cs c j++Rf.ownOf T cs (c+j)
 | 0,c=>by simp[Rf.fieldsAt]
 | j+1,c=>by
  rw[Rf.fieldsAt,Hq T cs j (c+1),Rf.fieldsAt,List.append_assoc,show c+1+j=c+(j+1) by omega]
theorem Iy (T:List Int) (cs:List Rd.Cls):∀ j:Nat,Rf.fieldsTo T cs j=Rf.fieldsAt T cs 7 j
 | 0=>rfl
 | j+1=>by rw[Rf.fieldsTo,Iy T cs j,Hq]
theorem N6 (T:List Int) (cs:List Rd.Cls) (n:Nat):∀ (j c f:Nat),c+j=cs.length→f≤n→n-f<(Rf.fieldsAt T cs c j).length →
  ∃ q:Nat,c≤q∧q<cs.length∧∃ i:Nat,i<(cs.getD q ⟨0,[]⟩).fields.length∧Aa8 (n:Int) ((cs.drop c).map Rd.Cls.fields) (c:Int) (f:Int)=((q:Int),(i:Int)) ∧
   ((Rf.fieldsAt T cs c j).getD (n-f) ⟨0,0,(0,0)⟩).owner=(q:Int)∧((Rf.fieldsAt T cs c j).getD (n-f) ⟨0,0,(0,0)⟩).t=(cs.getD q ⟨0,[]⟩).fields.getD i (0,0)
 | 0,c,f,hc,hf,h=>by simp[Rf.fieldsAt]at h
 | j+1,c,f,hc,hf,h=>by
  have hcl:c<cs.length:=by omega
  rw[List.drop_eq_getElem_cons hcl,List.map_cons,Aa8];have hg:cs.getD c ⟨0,[]⟩=cs[c]:=by rw[List.getD_eq_getElem?_getD,List.getElem?_eq_getElem hcl];rfl
  have hol:(Rf.ownOf T cs c).length=cs[c].fields.length:=by rw[Rf.ownOf,Ew,hg]
  rw[Rf.fieldsAt]at h ⊢;by_cases hin:n-f<cs[c].fields.length
  ·refine⟨c,Nat.le_refl _,hcl,n-f,by rw[hg];exact hin,?_,?_,?_⟩
   ·rw[if_pos (by omega)]
    congr 1;omega
   ·rw[List.getD_eq_getElem?_getD,List.getElem?_append_left (by rw[hol];exact hin),← List.getD_eq_getElem?_getD,Rf.ownOf,Jq _ _ _ _ _ (by rw[hg];exact hin)]
   ·rw[List.getD_eq_getElem?_getD,List.getElem?_append_left (by rw[hol];exact hin),← List.getD_eq_getElem?_getD,Rf.ownOf,Jq _ _ _ _ _ (by rw[hg];exact hin)]
  ·rw[if_neg (by omega)];obtain⟨q,h1,h2,i,h3,h4,h5,h6⟩:=N6 T cs n j (c+1) (f+cs[c].fields.length) (by omega) (by omega) (by rw[List.length_append,hol]at h;omega);refine⟨q,by omega,h2,i,h3,?_,?_,?_⟩
   ·rw[← h4];push_cast;rfl
   ·rw[List.getD_eq_getElem?_getD,List.getElem?_append_right (by rw[hol];omega),← List.getD_eq_getElem?_getD,hol,← h5];congr 2;omega
   ·rw[List.getD_eq_getElem?_getD,List.getElem?_append_right (by rw[hol];omega),← List.getD_eq_getElem?_getD,hol,← h6];congr 2;omega
theorem Mi (n:Int) (r:List (List (Int × Int))) (f:Int):∀ (k:Nat) (c:Int),Aa8 n (List.replicate k []++r) c f=Aa8 n r (c+(k:Int)) f
 | 0,c=>by simp
 | k+1,c=>by
  rw[List.replicate_succ,List.cons_append,Aa8,if_neg (by simp)];simp only[List.length_nil];rw[show f+((0:Nat):Int)=f by omega,Mi n r f k (c+1)]
  congr 1;omega
theorem Ju (T:List Int) (cs:List Rd.Cls) (h7:7≤cs.length) (hg:∀ i,i<7→(cs.getD i ⟨0,[]⟩).fields=[]) (n:Nat) (hn:n<(Rf.fieldsTo T cs (cs.length-7)).length) :
  Acq (cs.map Rd.Cls.fields) (n:Int)=(((Rf.fieldsTo T cs (cs.length-7)).getD n ⟨0,0,(0,0)⟩).owner,((Rf.fieldsTo T cs (cs.length-7)).getD n ⟨0,0,(0,0)⟩).t):=by
 rw[Iy]at hn ⊢;obtain⟨q,h1,h2,i,h3,h4,h5,h6⟩:=N6 T cs n (cs.length-7) 7 0 (by omega) (by omega) (by simpa using hn);have e:cs.map Rd.Cls.fields=List.replicate 7 []++(cs.drop 7).map Rd.Cls.fields:=by
  conv=>lhs;rw[← List.take_append_drop 7 cs,List.map_append]
  congr 1
  apply List.ext_getElem
  ·simp;omega
  ·intro i hi hi';have hi2:i<7:=by simpa using hi'
   have:=hg i hi2;rw[List.getD_eq_getElem?_getD,List.getElem?_eq_getElem (by omega)]at this;rw[List.getElem_map,List.getElem_take,List.getElem_replicate]
   simpa using this
 have ho:Aa8 (n:Int) (cs.map Rd.Cls.fields) 0 0=((q:Int),(i:Int)):=by
  rw[e,Mi];exact h4
 have hown:Ad1 (cs.map Rd.Cls.fields) (q:Int)=(cs.getD q ⟨0,[]⟩).fields:=by
  unfold Ad1;rw[if_neg (by omega),List.getD_eq_getElem?_getD,List.getElem?_map,List.getD_eq_getElem?_getD,Int.toNat_natCast];cases cs[q]? <;> rfl
 unfold Acq;rw[ho];simp only;rw[if_neg (by omega),hown,if_neg (by omega),Int.toNat_natCast];simp only[Nat.sub_zero]at h5 h6;rw[h5,h6]
def Aab (T:List Int) (isN:Int→Prop) (t:Int × Int):Prop:=Tr.Arg T t.1 t.2∧(t.1=4→isN t.2)
structure Acg (T:List Int) (lo:Nat) (hi:Int) (isN:Int→Prop) (x:Zx):Prop where
 lo:x.locals.length=lo
 hi:(x.stack.length:Int)≤hi
 tl:∀ t∈x.locals,Aab T isN t
 ts:∀ t∈x.stack,Aab T isN t
theorem Jp (T:List Int) (isN:Int→Prop):Aab T isN (0,0):=⟨.inl ⟨rfl,rfl⟩,fun h=>absurd h (by decide)⟩
theorem Gd {T:List Int}{isN:Int→Prop}{a b:Int × Int}{l:List (Int × Int)} (hb:Aab T isN b) (h:∀ t∈l,Aab T isN t):∀ t∈Aa1 a b l,Aab T isN t:=by
 intro t ht;unfold Aa1 at ht;obtain⟨y,hy,rfl⟩:=List.mem_map.1 ht
 split
 ·exact hb
 ·exact h y hy
theorem Bx {α:Type}{l:List α}{i:Nat}{d:α} (h:i<l.length):l.getD i d∈l:=by
 rw[List.getD_eq_getElem?_getD,List.getElem?_eq_getElem h];exact List.getElem_mem h
theorem Qk {α:Type}{l:List α}{i:Nat}{d t:α} (h:t∈l.set i d):t∈l∨t=d:=by
 rcases List.mem_or_eq_of_mem_set h with h|h
 ·exact .inl h
 ·exact .inr h
theorem V8 {T:List Int}{lo:Nat}{hi:Int}{isN:Int→Prop} (tk lv want:List (Int × Int)) (arg:Int→Int) (p op n:Int) (x y:Zx) (hx:Acg T lo hi isN x)
  (hlv:∀ t∈lv,Aab T isN t) (hn:op=2→0≤n∧n<(lo:Int)) (hnew:op=15→Aab T isN (4,p)) (hset:op=16→0≤n∧n<(T.length:Int))
  (h:Abt hi (Ac4 T tk lv want arg p op n x)=some y):Acg T lo hi isN y:=by
 unfold Abt at h;cases hm:Ac4 T tk lv want arg p op n x with
 | none=>rw[hm]at h;cases h
 | some z =>
  rw[hm]at h;simp only[Option.bind_some]at h;by_cases hz:(z.stack.length:Int)≤hi
  ·rw[if_pos hz]at h;obtain rfl:=Option.some.inj h
   suffices hh:z.locals.length=lo∧(∀ t∈z.locals,Aab T isN t)∧(∀ t∈z.stack,Aab T isN t) from ⟨hh.1,hz,hh.2.1,hh.2.2⟩
   have htk:∀ k,∀ t∈x.stack.take k,Aab T isN t:=fun k t ht=>hx.ts t (List.mem_of_mem_take ht);unfold Ac4 at hm;by_cases h2:op=2
   ·rw[if_pos h2]at hm
    split at hm
    ·cases hm
    ·obtain rfl:=Option.some.inj hm;refine⟨hx.lo,hx.tl,fun t ht=>?_⟩;rcases List.mem_append.1 ht with ht|ht
     ·exact hx.ts t ht
     ·obtain rfl:=List.mem_singleton.1 ht;have:=hn h2;exact hx.tl _ (Bx (by have:=hx.lo;omega))
   rw[if_neg h2]at hm;by_cases h3:op=3
   ·rw[if_pos h3]at hm
    split at hm
    ·cases hm
    ·rename_i hs;obtain rfl:=Option.some.inj hm;refine⟨by simpa using hx.lo,fun t ht=>?_,fun t ht=>htk _ t ht⟩;rcases Qk ht with ht | rfl
     ·exact hx.tl t ht
     ·exact hx.ts _ (Bx (by omega))
   rw[if_neg h3]at hm;by_cases h4:op=4
   ·rw[if_pos h4]at hm
    split at hm
    ·cases hm
    ·obtain rfl:=Option.some.inj hm;exact⟨hx.lo,hx.tl,fun t ht=>htk _ t ht⟩
   rw[if_neg h4]at hm;by_cases h5:op=5
   ·rw[if_pos h5]at hm
    split at hm
    ·cases hm
    ·obtain rfl:=Option.some.inj hm;refine⟨hx.lo,hx.tl,fun t ht=>?_⟩;rcases List.mem_append.1 ht with ht|ht
     ·exact hx.ts t ht
     ·exact hx.ts t (List.mem_of_mem_drop ht)
   rw[if_neg h5]at hm;by_cases h6:op=6
   ·rw[if_pos h6]at hm
    split at hm
    ·cases hm
    ·rename_i hs;obtain rfl:=Option.some.inj hm;refine⟨hx.lo,hx.tl,fun t ht=>?_⟩;rcases List.mem_append.1 ht with ht | ht
     ·exact htk _ t ht
     ·simp only[List.mem_cons,List.not_mem_nil,or_false]at ht;rcases ht with rfl | rfl
      ·exact hx.ts _ (Bx (by omega))
      ·exact hx.ts _ (Bx (by omega))
   rw[if_neg h6]at hm;by_cases h15:op=15
   ·rw[if_pos h15]at hm;obtain rfl:=Option.some.inj hm;refine⟨by rw[Bo];exact hx.lo,Gd (Jp T isN) hx.tl,fun t ht=>?_⟩;rcases List.mem_append.1 ht with ht | ht
    ·exact Gd (Jp T isN) hx.ts t ht
    ·obtain rfl:=List.mem_singleton.1 ht;exact hnew h15
   rw[if_neg h15]at hm;by_cases h16:op=16
   ·rw[if_pos h16]at hm;have h3n:Aab T isN (3,n):=⟨.inr (.inr (.inr (.inl ⟨rfl,hset h16⟩))),fun h=>absurd h (by simp)⟩;unfold Ae3 at hm
    split at hm
    ·cases hm
    ·split at hm
     ·cases hm
     ·split at hm
      ·cases hm
      ·split at hm
       ·cases hm
       ·obtain rfl:=Option.some.inj hm;exact⟨by rw[Bo];exact hx.lo,Gd h3n hx.tl,Gd h3n (htk _)⟩
   rw[if_neg h16]at hm
   split at hm
   ·cases hm
   ·obtain rfl:=Option.some.inj hm;refine⟨hx.lo,hx.tl,fun t ht=>?_⟩;rcases List.mem_append.1 ht with ht|ht
    ·exact htk _ t ht
    ·exact hlv t ht
  ·rw[if_neg hz]at h;cases h
def Acz (mp:Nat→Option Zx) (rl:Nat→Zx→Option Zx) (go:Nat→Bool) (p:Nat) (o:Option Zx):Option Zx :=
 ((mp p).or o).bind fun x=>(rl p x).bind fun z=>if go p=true then some z else none
def Adx (mp:Nat→Option Zx) (rl:Nat→Zx→Option Zx) (go:Nat→Bool) (q:Nat):List Nat→Option Zx→Option Zx
 | [],o=>o
 | p::r,o=>if q<p then o else if p=q then (mp p).or o else Adx mp rl go q r (Acz mp rl go p o)
def Acs (ah:Nat→Option Zx) (lk:Nat→Zx→Int):List Nat→Int × Int
 | []=>(0,0)
 | p::r=>match ah p with
  | none=>Acs ah lk r
  | some x=>if lk p x≠0 then (lk p x,(p:Int)) else Acs ah lk r
def Ad4 (mp:Nat→Option Zx) (rl:Nat→Zx→Option Zx) (go:Nat→Bool) (lk:Nat→Zx→Int):List Nat→Option Zx→Int × Int
 | [],_=>(0,0)
 | p::r,o=>match (mp p).or o with
  | none=>Ad4 mp rl go lk r none
  | some x=>if lk p x≠0 then (lk p x,(p:Int)) else Ad4 mp rl go lk r (Acz mp rl go p o)
theorem H9 (mp:Nat→Option Zx) (rl:Nat→Zx→Option Zx) (go:Nat→Bool) (q:Nat) (r:List Nat):∀ (d:List Nat) (o:Option Zx),(∀ p∈d,p<q) →
  Adx mp rl go q (d++q::r) o=(mp q).or (d.foldl (fun o p=>Acz mp rl go p o) o)
 | [],o,_=>by simp[Adx]
 | p::d,o,h=>by
  have hp:=h p (by simp);rw[List.cons_append,Adx,if_neg (by omega),if_neg (by omega),H9 mp rl go q r d _ (fun x hx=>h x (by simp[hx]))];rfl
theorem Ht (mp:Nat→Option Zx) (rl:Nat→Zx→Option Zx) (go:Nat→Bool) (lk:Nat→Zx→Int) (x0:Option Zx):∀ (r d:List Nat),(d++r).Pairwise (· < ·) →
  Acs (fun q=>Adx mp rl go q (d++r) x0) lk r=Ad4 mp rl go lk r (d.foldl (fun o p=>Acz mp rl go p o) x0)
 | [],d,_=>by simp[Acs,Ad4]
 | p::r,d,h=>by
  have hd:∀ q∈d,q<p:=fun q hq=>(List.pairwise_append.1 h).2.2 q hq p (by simp);have ih:=Ht mp rl go lk x0 r (d++[p]) (by simpa using h);rw[List.append_assoc,List.singleton_append,List.foldl_append]at ih;simp only[List.foldl_cons,List.foldl_nil]at ih;rw[Acs,Ad4,H9 mp rl go p r d x0 hd,ih];generalize List.foldl (fun o p=>Acz mp rl go p o) x0 d=o;cases hh:(mp p).or o with
  | none =>
   have:Acz mp rl go p o=none:=by unfold Acz;rw[hh];rfl
   simp only[this]
  | some x=>rfl
def Ade (T:List Int) (mp:Int→Option Zx) (H:Int) (R:Option Zx) (op n nxt len:Int):Int :=
 if H≠0 then H else if R.isSome=false then 10
 else if Aan op=true∧(mp n).isSome=false then 8
 else if Aan op=true∧Aae T (Aap R) (Aap (mp n))=false then 9
 else if Aa4 op=false then 0 else if len≤nxt then 11
 else if (mp nxt).isSome=true∧Aae T (Aap R) (Aap (mp nxt))=false then 9 else 0
theorem An {w:World}{g i j:Nat}{u:Value} (h:j≠g):(w.setCell ⟨g,i,none⟩ u).heap[j]?=w.heap[j]?:=Below.heap_setCell _ _ _ _ (by simpa using h)
theorem Dr {w:World}{z:Nat}{x y:Value}{ty:TypeId} (h:w.heap[z]?=some (.cells #[x,y] ty (0,0))) (s t:Value):((w.setCell ⟨z,0,none⟩ s).setCell ⟨z,1,none⟩ t).heap[z]?=some (.cells #[s,t] ty (0,0)):=by
 have h1:(w.setCell ⟨z,0,none⟩ s).heap[z]?=some (.cells #[s,y] ty (0,0)):=by rw[Al h];rfl
 rw[Al h1];rfl
theorem Cw {w:World}{z j:Nat}{s t:Value} (h:j≠z):((w.setCell ⟨z,0,none⟩ s).setCell ⟨z,1,none⟩ t).heap[j]?=w.heap[j]?:=(An h).trans (An h)
theorem FrV.is.set2 {v:FrV}{x:Zx}{w:World}{z:Nat}{a1 a2:Option Addr}{n1 c1 n2 c2:Nat}{ty:TypeId} (h:v.is x w) (hz:w.heap[z]?=some (.cells #[.slice a1 n1 c1,.slice a2 n2 c2] ty (0,0))) (s t:Value):v.is x ((w.setCell ⟨z,0,none⟩ s).setCell ⟨z,1,none⟩ t):=⟨h.lo.set_frame hz s t,h.st.set_frame hz s t,h.hl,h.hs⟩
def Aei (T:List Int) (m0:Option Zx) (x0:Zx) (ah:Nat→Option Zx) (lk:Nat→Zx→Int) (ps:List Nat):Int × Int :=
 if m0.isSome=true∧Aae T x0 (Aap m0)=false then (9,0) else Acs ah lk ps
end Go.Proofs.YtpcgnjolfahacaaGreat
