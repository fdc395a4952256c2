/- a part of the proof -/
import Derived.Deep.RegionHeld
import Derived.Deep.RegionHeld3
import Derived.Test.YtcefiamkoincoaaGreatPk12
set_option maxRecDepth 100000
set_option maxHeartbeats 40000000
set_option linter.unusedVariables false
set_option linter.unusedSimpArgs false
namespace Go.Proofs.YtcefiamkoincoaaGreat
open Go.RowKit
theorem N7 {α β:Type}{l:List (α × β)}{r:List α} (h:l.map Prod.fst=r) {P:α→Prop} (hp:∀ x∈r,P x):∀ p∈l,P p.1:=by
 intro p hpm;refine hp p.1 ?_;rw[← h];exact List.mem_map_of_mem hpm
theorem Pa {T:List Int}{nf:Int}{ow:List Int}:∀ (l:List Rd.Mth) (k:Nat),(Abe T nf ow k l).1=0→Abe T nf ow k l=(0,0,0):=by
 intro l
 induction l with
 | nil=>intro k _;rfl
 | cons m r ih =>
  intro k h;unfold Abe at h ⊢;by_cases h0:(Adh T nf ow m).1≠0
  ·rw[if_pos h0]at h;exact absurd h h0
  ·rw[if_neg h0]at h ⊢;exact ih _ h
theorem Ta (f:Rd.Fil) (h:(Ac9 f).1=0):Ac9 f=(0,0,0):=by
 unfold Ac9 at h ⊢;by_cases h1:(Tr.inCl (Tr.tree f.classes) 0 f.classes).1≠0
 ·rw[if_pos h1]at h;exact absurd h h1
 ·rw[if_neg h1]at h ⊢;unfold Aem at h ⊢;by_cases h2:0≤Ab1 (Tr.tree f.classes) f.methods 0 f.methods
  ·rw[if_pos h2]at h;simp at h
  ·rw[if_neg h2]at h ⊢;exact Pa _ _ h
theorem Ul (s:ByteArray) (w:World) (hs:s.size≤maxLen) :
  Calls Tryz.prog 21 #[.string s] w fun e w' =>
   ∃ a1 n1 c1 a2 n2 c2,e=.returned (.tuple #[.agg #[.slice a1 n1 c1,.slice a2 n2 c2],.agg #[.int .i64 (Acq s.data.toList).1,.int .i64 (Acq s.data.toList).2.1,.int .i64 (Acq s.data.toList).2.2]]) ∧
    ((Acq s.data.toList).1=0→∃ lcs lms,lcs.map Prod.fst=(Rd.read s.data.toList).1.classes∧ClssIn w' w.heap.size (.slice a1 n1 c1) lcs∧lms.map Prod.fst=(Rd.read s.data.toList).1.methods∧MthsIn w' w.heap.size (.slice a2 n2 c2) lms)∧Below w.heap.size w w':=by
 have hRd:=fun w=>Wc s w hs;obtain⟨hm6,hmb⟩:=Gi s.data.toList;obtain⟨hc6,hcf⟩:=Gy s.data.toList;have hPz:(Acq s.data.toList).1=0→Acq s.data.toList=(0,0,0):=by
  intro h;unfold Acq at h ⊢;by_cases h1:(Rd.read s.data.toList).2≠0
  ·rw[if_pos h1]at h;exact absurd h h1
  ·rw[if_neg h1]at h ⊢;exact Ta _ h
 generalize hP:Acq s.data.toList=P at *;unfold Acq at hP;generalize Rd.read s.data.toList=q at *;obtain⟨⟨cs,ms⟩,er⟩:=q;obtain⟨P1,P2,P3⟩:=P;simp only[Prod.mk.injEq]at hRd hm6 hmb hc6 hcf hP hPz ⊢;have HPZ:=Ac hPz;clear hPz;have HRD:=Ac hRd;have HMB:=Ac hmb;have HCF:=Ac hcf;clear hRd hmb hcf;have hB0:=Ak w (O1 none 0 0 none 0 0) (O8 0 0 0);have C0:=Ah w (O1 none 0 0 none 0 0) (O8 0 0 0);have D0:=Ag w (O1 none 0 0 none 0 0) (O8 0 0 0);by_cases h1:er=0
 ·subst h1;rw[if_neg (by simp)]at hP;have HP:=Ac hP;clear hP;go_enter Tryz.func21,Tryz.ntmps21;go_wp2_with fail
  refine(Aa HRD _).mono ?_;rintro e w1 ⟨a1,n1,c1,a2,n2,c2,rfl,⟨lcs,hl1,hcs⟩,⟨lms,hl2,hms⟩,hb1⟩;obtain⟨xa,xc,hsh⟩:=Af hcs.1;simp only[Value.slice.injEq]at hsh;obtain⟨rfl,rfl,rfl⟩:=hsh;obtain⟨xa,xc,hsh⟩:=Af hms.1;simp only[Value.slice.injEq]at hsh;obtain⟨rfl,rfl,rfl⟩:=hsh;have hB1:=QB hB0 hb1;have hs1:=hB1.size;have C1:=stay hb1 C0;have D1:=stay hb1 D0;have lC:=lt_of_block C1;have lD:=lt_of_block D1;have hcs':ClssIn w1 (w.heap.size+1+1) (.slice a1 lcs.length c1) lcs:=by simpa using hcs
  have hms':MthsIn w1 (w.heap.size+1+1) (.slice a2 lms.length c2) lms:=by simpa using hms
  have hK1:Kp none (w.heap.size+1+1) w1 (w1.alloc (O1 a1 lcs.length c1 a2 lms.length c2)):=Kp.alloc _ _;have hfi:=Wa a1 a2 c1 c2 lcs lms (w.heap.size+1+1) (w1.alloc (O1 a1 lcs.length c1 a2 lms.length c2))
   (by have:=congrArg List.length hl2;simp at this;omega) (by have:=congrArg List.length hl1;simp at this;omega) (N7 hl1 (Aa HCF)) (hcs'.kp hK1 (by decide) (by decide)) (hms'.kp hK1 (by decide) (by decide) (by decide) (by decide) (by decide)) (N7 hl2 (Aa HMB))
  rw[hl1,hl2,Aa HP]at hfi;have HFI:=Ac hfi;have hB1':=hB1.alloc hs1 (O1 a1 lcs.length c1 a2 lms.length c2);have C1':=Aj C1 (O1 a1 lcs.length c1 a2 lms.length c2);have D1':=Aj D1 (O1 a1 lcs.length c1 a2 lms.length c2);have E1':=Ad w1 (O1 a1 lcs.length c1 a2 lms.length c2);clear hfi hcs hms hb1 C0 D0 hB0 C1 D1 hK1;go_wp2_with fail
  refine(Aa HFI).mono ?_;rintro e w2 ⟨rfl,hb2⟩;have hB2:=hB1'.trans (hb2.mono hB1'.size);have C2:=stay hb2 C1';have D2:=stay hb2 D1';have E2:=stay hb2 E1';have hcs2:=(hcs'.kp (Kp.alloc (e:=none) w1 (O1 a1 lcs.length c1 a2 lms.length c2)) (by decide) (by decide)).kp (Kp.of_below (e:=none) hb2) (by decide) (by decide);have hms2:=(hms'.kp (Kp.alloc (e:=none) w1 (O1 a1 lcs.length c1 a2 lms.length c2)) (by decide) (by decide) (by decide) (by decide) (by decide)).kp (Kp.of_below (e:=none) hb2) (by decide) (by decide) (by decide) (by decide) (by decide);have hs2:=hB2.size;have lC2:=lt_of_block C2;have lD2:=lt_of_block D2;have lE2:=lt_of_block E2;obtain⟨x0,x1⟩:=cl2 E2;obtain⟨y0,y1⟩:=cl2 C2;obtain⟨z0,z1,z2⟩:=cl3 D2;obtain⟨p0,p1⟩:=fr2 C2;obtain⟨q0,q1,q2⟩:=fr3 D2;simp at x0 x1 y0 y1 z0 z1 z2;clear C1' D1' E1' hB1' hb2;by_cases h2:P1=0
  ·obtain⟨-,rfl,rfl⟩:=Aa HPZ h2;subst h2;go_wp2_with fail
   refine bodyPost_ret (v:=.tuple #[.agg #[.slice a1 lcs.length c1,.slice a2 lms.length c2],.agg #[.int .i64 0,.int .i64 0,.int .i64 0]]) (by simp[results,Tryz.results21,go_sem,y0,y1,z0,z1,z2,lC2,lD2]) rfl ?_;have k1:Kp none (w.heap.size+1+1) w2 ((((((w2.setCell ⟨w.heap.size,0,none⟩ (.slice a1 lcs.length c1)).setCell ⟨w.heap.size,1,none⟩ (.slice a2 lms.length c2)).setCell ⟨w.heap.size+1,0,none⟩ (.int .i64 0)).setCell ⟨w.heap.size+1,1,none⟩ (.int .i64 0)).setCell ⟨w.heap.size+1,2,none⟩ (.int .i64 0)).alloc (O8 0 0 0)) :=
    (((((Kp.set_lo (by omega) _).trans (Kp.set_lo (by omega) _)).trans (Kp.set_lo (by omega) _)).trans (Kp.set_lo (by omega) _)).trans (Kp.set_lo (by omega) _)).trans (Kp.alloc _ _)
   refine⟨a1,lcs.length,c1,a2,lms.length,c2,rfl,?_,?_⟩
   ·first | intro _;exact⟨lcs,lms,hl1,(hcs2.kp k1 (by decide) (by decide)).mono (by omega),hl2,(hms2.kp k1 (by decide) (by decide) (by decide) (by decide) (by decide)).mono (by omega)⟩ | exact⟨lcs,hl1,(hcs2.kp k1 (by decide) (by decide)).mono (by omega),lms,hl2,(hms2.kp k1 (by decide) (by decide) (by decide) (by decide) (by decide)).mono (by omega)⟩
   ·exact(((((hB2.setCell (by simp) _).setCell (by simp) _).setCell (by simp) _).setCell (by simp) _).setCell (by simp) _).alloc (by simp;omega) _
  ·have h2':(P1 != 0)=true:=by simpa using h2
   go_wp2;have H2:=Ac h2;clear h2
   go_region
   go_wp2_with fail
   refine bodyPost_ret (v:=.tuple #[.agg #[.slice none 0 0,.slice none 0 0],.agg #[.int .i64 P1,.int .i64 P2,.int .i64 P3]]) (by simp[results,Tryz.results21,go_sem,y0,y1,z0,z1,z2,lC2,lD2]) rfl ?_;refine⟨none,0,0,none,0,0,rfl,fun h=>absurd h (Aa H2),?_⟩;exact((((((hB2.setCell (by simp) _).setCell (by simp) _).setCell (by simp) _).setCell (by simp) _).setCell (by simp) _).alloc (by simp;omega) _).drew
 ·rw[if_pos h1]at hP;have h1':(er != 0)=true:=by simpa using h1
  simp only[Prod.mk.injEq]at hP;obtain⟨rfl,rfl,rfl⟩:=hP;have H1:=Ac h1;clear h1 HPZ;go_enter Tryz.func21,Tryz.ntmps21;go_wp2_with fail
  refine(Aa HRD _).mono ?_;rintro e w1 ⟨a1,n1,c1,a2,n2,c2,rfl,-,-,hb1⟩;have hB1:=QB hB0 hb1;have hs1:=hB1.size;have C1:=stay hb1 C0;have D1:=stay hb1 D0;have lC2:=lt_of_block C1;have lD2:=lt_of_block D1;obtain⟨y0,y1⟩:=cl2 C1;obtain⟨z0,z1,z2⟩:=cl3 D1;obtain⟨p0,p1⟩:=fr2 C1;obtain⟨q0,q1,q2⟩:=fr3 D1;simp at y0 y1 z0 z1 z2;go_wp2_with fail
  refine bodyPost_ret (v:=.tuple #[.agg #[.slice none 0 0,.slice none 0 0],.agg #[.int .i64 er,.int .i64 0,.int .i64 0]]) (by simp[results,Tryz.results21,go_sem,y0,y1,z0,z1,z2,lC2,lD2]) rfl ?_;refine⟨none,0,0,none,0,0,rfl,fun h=>absurd h (Aa H1),?_⟩;exact(((((hB1.setCell (by simp) _).setCell (by simp) _).setCell (by simp) _).setCell (by simp) _).setCell (by simp) _).alloc (by simp;omega) _
theorem Iw {α:Type} (f:α→List UInt8) (c:Nat) (l:List α) (h:∀ x∈l,(f x).length≤c):(l.flatMap f).length≤l.length*c:=by
 induction l with
 | nil=>simp
 | cons x r ih =>
  have h1:=h x (List.mem_cons_self ..);have h2:=ih (fun y hy=>h y (List.mem_cons_of_mem _ hy));simp only[List.flatMap_cons,List.length_append,List.length_cons,Nat.add_mul];omega
def TyR (w:World) (v:Value) (l:List (Int × Int)):Prop :=
 (v=.slice none 0 0∧l=[])∨∃ g o c cur,v=.slice (some ⟨g,o,none⟩) l.length c∧w.heap[g]?=some (.cells cur 39 (0,0))∧l.length≤c∧c≤maxLen∧∀ j x,(Am l)[j]?=some x→w.cell? ⟨g,o+j,none⟩=some x
theorem TyR.nil (w:World):TyR w (.slice none 0 0) []:=.inl ⟨rfl,rfl⟩
theorem TyR.of_tys {w:World}{b:Nat}{v:Value}{l:List (Int × Int)} (h:TysAt w b v l):TyR w v l:=by
 obtain⟨hl,⟨hv,hn⟩|⟨g,cap,cur,hv,hb,hg,hlen,hm,hsz,htk⟩⟩:=h
 ·exact .inl ⟨hv,List.eq_nil_of_length_eq_zero hn⟩
 ·refine .inr ⟨g,0,cap,cur,hv,hg,hlen,hm,fun j u hu=>?_⟩;have hj:j<(Am l).length:=(List.getElem?_eq_some_iff.1 hu).1;rw[Nat.zero_add,Ab hg,← hu,← htk,List.getElem?_take,if_pos (by rw[hl]at hj;exact hj)]
  simp
theorem TyR.below {w w':World}{v:Value}{l:List (Int × Int)} (h:TyR w v l) (hb:Below w.heap.size w w'):TyR w' v l:=by
 rcases h with h|⟨g,o,c,cur,hv,hg,h1,h2,h3⟩
 ·exact .inl h
 ·exact .inr ⟨g,o,c,cur,hv,(hb.block g (lt_of_block hg)).trans hg,h1,h2,fun j x hx=>by rw[hb.cell (p:=⟨g,o+j,none⟩) (lt_of_block hg)];exact h3 j x hx⟩
theorem TyR.shape {w:World}{v:Value}{l:List (Int × Int)} (h:TyR w v l):∃ a c,v=.slice a l.length c:=by
 rcases h with ⟨rfl,rfl⟩|⟨g,o,c,cur,hv,_⟩
 ·exact⟨none,0,rfl⟩
 ·exact⟨_,c,hv⟩
theorem TyR.cap {w:World}{a:Option Addr}{n c:Nat}{l:List (Int × Int)} (h:TyR w (.slice a n c) l):n=l.length∧l.length≤c∧c≤maxLen:=by
 rcases h with ⟨h1,rfl⟩|⟨g,o,c',cur,hv,_,h1,h2,_⟩
 ·simp only[Value.slice.injEq]at h1;obtain⟨_,rfl,rfl⟩:=h1;exact⟨rfl,Nat.le_refl _,Nat.zero_le _⟩
 ·simp only[Value.slice.injEq]at hv;obtain⟨_,rfl,rfl⟩:=hv;exact⟨rfl,h1,h2⟩
theorem TyR.at {w:World}{a:Option Addr}{n c:Nat}{l:List (Int × Int)} (h:TyR w (.slice a n c) l) (hn:0<l.length) :
  ∃ g o,a=some ⟨g,o,none⟩∧g<w.heap.size∧∀ k (hk:k<l.length),w.cell? ⟨g,o+k*2,none⟩=some (.int .i64 l[k].1)∧w.cell? ⟨g,o+k*2+1,none⟩=some (.int .i64 l[k].2):=by
 rcases h with ⟨_,rfl⟩|⟨g,o,c',cur,hv,hg,_,_,h3⟩
 ·simp at hn
 ·simp only[Value.slice.injEq]at hv;refine⟨g,o,hv.1,lt_of_block hg,fun k hk=>?_⟩;obtain⟨e1,e2,_⟩:=Az l k hk;exact⟨h3 _ _ e1,by rw[Nat.add_assoc];exact h3 _ _ e2⟩
theorem Je (l:List (Int × Int)) (k:Nat):Am (l.take k)=(Am l).take (k*2):=by
 induction l generalizing k with
 | nil=>simp[Am]
 | cons x r ih =>
  cases k with
  | zero=>simp[Am]
  | succ j =>
   have e:Am (x::r)=.int .i64 x.1 :: .int .i64 x.2::Am r:=by simp[Am]
   have e':Am (x::r.take j)=.int .i64 x.1 :: .int .i64 x.2::Am (r.take j):=by simp[Am]
   rw[List.take_succ_cons,e,e',ih,show (j+1)*2=j*2+1+1 by omega,List.take_succ_cons,List.take_succ_cons]
theorem Pe (l:List (Int × Int)) (k:Nat):Am (l.drop k)=(Am l).drop (k*2):=by
 induction l generalizing k with
 | nil=>simp[Am]
 | cons x r ih =>
  cases k with
  | zero=>simp[Am]
  | succ j =>
   have e:Am (x::r)=.int .i64 x.1 :: .int .i64 x.2::Am r:=by simp[Am]
   rw[List.drop_succ_cons,e,ih,show (j+1)*2=j*2+1+1 by omega,List.drop_succ_cons,List.drop_succ_cons]
theorem TyR.take {w:World}{a:Option Addr}{n c:Nat}{l:List (Int × Int)} (h:TyR w (.slice a n c) l) {k:Nat} (hk:k≤l.length):TyR w (.slice a k c) (l.take k):=by
 rcases h with ⟨h1,rfl⟩|⟨g,o,c',cur,hv,hg,h1,h2,h3⟩
 ·simp only[Value.slice.injEq]at h1;obtain⟨rfl,rfl,rfl⟩:=h1;have:k=0:=by simpa using hk
  subst this;exact .inl ⟨rfl,rfl⟩
 ·simp only[Value.slice.injEq]at hv;obtain⟨rfl,rfl,rfl⟩:=hv;have hl:(l.take k).length=k:=by simp;omega
  refine .inr ⟨g,o,c,cur,by rw[hl],hg,by omega,h2,fun j x hx=>h3 j x ?_⟩;rw[Je,List.getElem?_take]at hx
  split at hx
  ·exact hx
  ·simp at hx
theorem TyR.drop {w:World}{g o:Nat}{n c:Nat}{l:List (Int × Int)} (h:TyR w (.slice (some ⟨g,o,none⟩) n c) l) {k m d:Nat} (hk:k≤l.length) (hm:m=l.length-k) (hd:d=c-k):TyR w (.slice (some ⟨g,o+k*2,none⟩) m d) (l.drop k):=by
 rcases h with ⟨h1,rfl⟩|⟨g',o',c',cur,hv,hg,h1,h2,h3⟩
 ·simp at h1
 ·simp only[Value.slice.injEq,Option.some.injEq,Addr.mk.injEq,and_true]at hv;obtain⟨⟨rfl,rfl⟩,rfl,rfl⟩:=hv;have hl:(l.drop k).length=m:=by simp;omega
  refine .inr ⟨g,o+k*2,d,cur,by rw[hl],hg,by omega,by omega,fun j x hx=>?_⟩;rw[Pe,List.getElem?_drop]at hx;rw[Nat.add_assoc];exact h3 _ _ hx
theorem TyR.new1 (w:World) (k n:Int):TyR (w.alloc (O7 k n)) (.slice (some ⟨w.heap.size,0,none⟩) 1 1) [(k,n)]:=by
 refine .inr ⟨w.heap.size,0,1,_,rfl,Ad w _,by simp,by unfold maxLen;omega,fun j x hx=>?_⟩;rw[Ab (Ad w _),Nat.zero_add]
 simpa[Am] using hx
theorem TyR.new2 (w:World) (k n k' n':Int):TyR (w.alloc (O24 k n k' n')) (.slice (some ⟨w.heap.size,0,none⟩) 2 2) [(k,n),(k',n')]:=by
 refine .inr ⟨w.heap.size,0,2,_,rfl,Ad w _,by simp,by unfold maxLen;omega,fun j x hx=>?_⟩;rw[Ab (Ad w _),Nat.zero_add]
 simpa[Am] using hx
theorem Bw {w:World}{ops:Array Oper}{rest:List Oper}{o:Oper}{a:Act}{Q:Exit→Act→World→Prop} (hgd:o.guard=none) (s x:Operand)
  (ho:o.op=.call { callee:=.builtin .append,args:=#[s,x],argTypes:=#[48,48] })
  (base:Nat) (v:Value) (xs ys:List (Int × Int)) (va:Option Addr) (vl vc:Nat) (hs:a.eval s=v) (hown:w.ownsRow base 39 2 v xs.length (Am xs)) (hx:a.eval x=.slice va vl vc) (hy:TyR w (.slice va vl vc) ys)
  (h1:xs.length+ys.length≤100000) (hbase:base≤w.heap.size)
  (h:∀ v' w',w'.ownsRow base 39 2 v' (xs++ys).length (Am (xs++ys))→w.grownBy w' v.ownBlock→wpList Tryz.prog ops Q rest (a.put o.dst v') w'):wpList Tryz.prog ops Q (o::rest) a w:=by
 obtain⟨i0,hi,hz0,hz1,hz2⟩:=info_parts Tryz.infoType;rcases hy with ⟨hv,rfl⟩|⟨g,of,c,cur,hv,hg,hc,hm,h3⟩
 ·refine wpList_append_own_none hgd s x _ ho base 39 i0 2 Tryz.underlying48 hi v _ _ hs hown (hx.trans hv) ?_;exact h v w (by simpa using hown) (World.grownBy.refl _ _)
 ·refine wpList_append_own w hgd s x _ ho base 39 i0 _ 2 16 Tryz.underlying48 hi hz0 hz1 hz2 rfl (by omega) v _ _ hs hown ⟨g,of,none⟩ ys.length c (Am ys) (hx.trans hv) (Fu ys) ?_ (Kn ys) (by unfold maxLen;omega) (by omega) hbase ?_
  ·intro j u hu;rw[Addr.add_lit];exact h3 j u hu
  ·intro v' w' ho' hg' _;exact h v' w' (by rw[List.length_append,Bs];exact ho') hg'
structure Zt where
 locals:List (Int × Int)
 stack:List (Int × Int)
def Aau (r:Int × Int):List (Int × Int):=if r.1=0 then [] else [r]
def Zy (a b:Int × Int) (l:List (Int × Int)):List (Int × Int):=l.map fun x=>if x=a then b else x
def Ab3 (T:List Int):List (Int × Int)→List (Int × Int)→Bool
 | _,[]=>true
 | [],_::_=>false
 | s::ss,t::ts=>Tr.rfits T s.1 s.2 t.1 t.2&&Ab3 T ss ts
def Abu (T:List Int) (st want:List (Int × Int)):Bool:=if st.length<want.length then false else Ab3 T (st.drop (st.length-want.length)) want
theorem De (k:Int) (w:World):Calls Tryz.prog 224 #[.int .i64 k] w fun e w'=>∃ a c,e=.returned (.slice a 1 c)∧TyR w' (.slice a 1 c) [(k,0)]∧Below w.heap.size w w':=by
 have h:=TyR.new1 w k 0;go_enter Tryz.func224,Tryz.ntmps224;go_wp2;go_ret;exact⟨_,_,rfl,h,QN _⟩
theorem Cr (c:Int) (w:World):Calls Tryz.prog 138 #[.int .i64 c] w fun e w'=>e=.returned (.agg #[.int .i64 3,.int .i64 c])∧Below w.heap.size w w':=by
 go_enter Tryz.func138,Tryz.ntmps138;go_wp2_with fail
 refine bodyPost_ret (v:=.agg #[.int .i64 3,.int .i64 c]) (by simp[results,Tryz.results138,go_sem]) rfl ?_;exact⟨rfl,QN _⟩
theorem Hx (m:RMV) (w:World):Calls Tryz.prog 225 #[m.val] w fun e w'=>∃ a c,e=.returned (.slice a (Aau (m.r1,m.r2)).length c)∧TyR w' (.slice a (Aau (m.r1,m.r2)).length c) (Aau (m.r1,m.r2))∧Below w.heap.size w w':=by
 obtain⟨cl,nm,pa,pl,pc,r1,r2,lo,st,code,ha,hl,hc,ma,ml,mc,mAt,fin⟩:=m;simp only[RMV.val];unfold Aau;simp only;by_cases h:r1=0
 ·subst h;go_enter Tryz.func225,Tryz.ntmps225;go_wp2;go_ret;exact⟨none,0,rfl,TyR.nil _,QN _⟩
 ·rw[if_neg h];have h':(r1==0)=false:=by simpa using h
  have hn:=TyR.new1 (w.alloc (O14 cl nm pa pl pc r1 r2 lo st code ha hl hc ma ml mc mAt fin)) r1 r2;clear h;go_enter Tryz.func225,Tryz.ntmps225;go_wp2;go_ret;exact⟨_,_,rfl,by simpa using hn,Ak _ _ _⟩
theorem Bg {B n:Nat}{a w:World} (h:Below B a w):Below B a (w.drewN n):=⟨h.os,h.tape,h.output,h.size,h.block⟩
theorem Iy (a b:Int × Int) (l:List (Int × Int)) (q:Nat) (hq:q<l.length):Zy a b (l.take (q+1))=Zy a b (l.take q)++[if l[q]=a then b else l[q]]:=by
 unfold Zy;rw[List.take_succ_eq_append_getElem hq,List.map_append];rfl
theorem Bl {w:World}{b:Nat}{v:Value}{l:List (Int × Int)}{n:Nat} (h:w.ownsRow b 39 2 v n (Am l)) (hn:n=l.length):TyR w v l:=by
 subst hn;exact TyR.of_tys h
theorem Dt (l1 l2:List (Int × Int)) (a1 a2:Option Addr) (n1 c1 n2 c2:Nat) (w:World) (h1:TyR w (.slice a1 n1 c1) l1) (h2:TyR w (.slice a2 n2 c2) l2) (hl:l1.length+l2.length≤10000) :
  Calls Tryz.prog 210 #[.slice a1 n1 c1,.slice a2 n2 c2] w fun e w'=>∃ a c,e=.returned (.slice a (l1.length+l2.length) c)∧TysAt w' w.heap.size (.slice a (l1.length+l2.length) c) (l1++l2)∧Below w.heap.size w w':=by
 go_enter Tryz.func210,Tryz.ntmps210;go_wp2_with (at_builtin;refine Bw rfl _ _ rfl w.heap.size _ [] l1 a1 n1 c1 rfl (World.ownsRow_nil _ _ _ _) rfl h1 (by simp;omega) (by omega) ?_)
 intro v' w1 hown1 hgrow;have hB1:=(Below.refl w.heap.size w).grown hgrow (by omega) (fun j hj=>by simp[Value.ownBlock]at hj);have h2':=h2.below hB1;have hs1:=hB1.size;clear hgrow h1 h2;go_wp2_with (at_builtin;refine Bw rfl _ _ rfl w.heap.size _ l1 l2 a2 n2 c2 rfl hown1 rfl h2' (by omega) (by omega) ?_)
 intro v'' w2 hown2 hgrow;have hB2:=hB1.grown hgrow (by omega) (fun j hj=>(hown1.lt j hj).1);obtain⟨a,c,rfl⟩:=Af hown2;clear hgrow;go_wp2;go_ret;exact⟨a,c,rfl,by unfold TysAt;rw[List.length_append];exact hown2,hB2⟩
theorem Fc (l:List (Int × Int)) (va:Option Addr) (vn vc:Nat) (k n k' n':Int) (w:World) (h1:TyR w (.slice va vn vc) l) (hl:l.length≤10000) :
  Calls Tryz.prog 211 #[.slice va vn vc,.agg #[.int .i64 k,.int .i64 n],.agg #[.int .i64 k',.int .i64 n']] w fun e w'=>∃ a c,e=.returned (.slice a l.length c)∧TysAt w' w.heap.size (.slice a l.length c) (Zy (k,n) (k',n') l)∧Below w.heap.size w w':=by
 obtain⟨rfl,-,-⟩:=h1.cap;obtain⟨i0,hi,hz0,hz1,hz2⟩:=info_parts Tryz.infoType;have hB0:=Ak w (O7 k n) (O7 k' n');have C0:=Ah w (O7 k n) (O7 k' n');have D0:=Ag w (O7 k n) (O7 k' n');go_enter Tryz.func211,Tryz.ntmps211;go_wp2
 go_loopw [7,8] (fun v i wr=>∃ q:Nat,q≤l.length∧i=.int .i64 (q:Int)∧wr.ownsRow (w.heap.size+1+1) 39 2 v q (Am (Zy (k,n) (k',n') (l.take q)))∧Below w.heap.size w wr ∧
   wr.heap[w.heap.size]?=some (O7 k n)∧wr.heap[w.heap.size+1]?=some (O7 k' n'))
  (fun _ i _=>l.length-(intOf i).toNat)
 case atStart=>exact⟨0,by omega,rfl,World.ownsRow_nil _ _ _ _,hB0,C0,D0⟩
 case round =>
  clear hB0 C0 D0;obtain⟨q,hq,rfl,hown,hB,hC,hD⟩:=hrel;have hBs:=hB.size;have lC:=lt_of_block hC;have lD:=lt_of_block hD;obtain⟨ua,uc,rfl⟩:=Af hown;by_cases hkn:q<l.length
  ·obtain⟨g,o,rfl,hg,hat⟩:=(h1.below hB).at (by omega);obtain⟨x0,x1⟩:=hat q hkn;have hd:Zy (k,n) (k',n') (l.take (q+1))=Zy (k,n) (k',n') (l.take q)++[if l[q]=(k,n) then (k',n') else l[q]]:=Iy _ _ l q hkn
   generalize l[q]=t at *;obtain⟨t1,t2⟩:=t;simp only at x0 x1;obtain⟨y0,y1⟩:=cl2 hC;obtain⟨z0,z1⟩:=cl2 hD;simp at y0 y1 z0 z1;have kb:(q:Int)<(l.length:Int):=by omega
   have HAT:=Ac hat;clear hat;by_cases he1:t1=k
   ·subst he1;by_cases he2:t2=n
    ·subst he2;rw[if_pos rfl]at hd;have HD:=Ac hd;clear hd;go_wp2
     go_quiet (fail)
     go_wp2_with (at_builtin;refine wpList_append_own _ rfl _ _ 48 rfl (w.heap.size+1+1) 39 i0 _ 2 16 Tryz.underlying48 hi hz0 hz1 hz2 rfl (by decide) _ _ _ rfl (hown.alloc _) ⟨wr.heap.size,0,none⟩ 1 1 [.int .i64 k',.int .i64 n'] rfl rfl ?c1 ?c2 ?c3 ?c4 ?c5 ?_)
     case c1=>exact Au _ _ _ _ rfl
     case c2=>intro u hu;simp at hu;rcases hu with rfl | rfl<;>rfl
     case c3=>unfold maxLen;omega
     case c4=>omega
     case c5=>simp;omega
     rename_i nq;intro v' w2 hown2 hgrow _;have hown':(wr.drewN nq).ownsRow (w.heap.size+1+1) 39 2 (.slice ua q uc) q (Am (Zy (t1,t2) (k',n') (l.take q))):=hown;have hB2:=((Bg (n:=nq) hB).alloc (show w.heap.size≤(wr.drewN nq).heap.size from hBs) (O7 k' n')).grown hgrow (by simp;omega) (fun j hj=>by have:=(hown.lt j hj).1;omega);have K1:Kp none 0 wr ((wr.drewN nq).alloc (O7 k' n')):=Kp.alloc (wr.drewN nq) _;have hC2:w2.heap[w.heap.size]?=some (O7 t1 t2):=by
      rw[hgrow.block _ (by simp;omega) (fun hh=>by have:=(hown.lt _ hh.symm).1;omega)];exact K1 _ _ _ (Nat.zero_le _) hC (by simp)
     have hD2:w2.heap[w.heap.size+1]?=some (O7 k' n'):=by
      rw[hgrow.block _ (by simp;omega) (fun hh=>by have:=(hown.lt _ hh.symm).1;omega)];exact K1 _ _ _ (Nat.zero_le _) hD (by simp)
     have hown3:w2.ownsRow (w.heap.size+1+1) 39 2 v' (q+1) (Am (Zy (t1,t2) (k',n') (l.take (q+1)))):=by rw[Aa HD,Bs];exact hown2
     clear hgrow hown hown' hown2 hB hC hD K1 x0 x1 y0 y1 z0 z1;go_wp2
     go_roundw
     case rel=>exact⟨q+1,by omega,by go_num,hown3,hB2,hC2,hD2⟩
     case measure=>simp[intOf];omega
    ·have he:(t2==n)=false:=by simpa using he2
     rw[if_neg (by simpa using he2)]at hd;clear he2;have HD:=Ac hd;clear hd;go_wp2
     go_quiet (fail)
     go_wp2_with (at_builtin;refine wpList_append_own _ rfl _ _ 48 rfl (w.heap.size+1+1) 39 i0 _ 2 16 Tryz.underlying48 hi hz0 hz1 hz2 rfl (by decide) _ _ _ rfl (hown.alloc _) ⟨wr.heap.size,0,none⟩ 1 1 [.int .i64 t1,.int .i64 t2] rfl rfl ?c1 ?c2 ?c3 ?c4 ?c5 ?_)
     case c1=>exact Au _ _ _ _ rfl
     case c2=>intro u hu;simp at hu;rcases hu with rfl | rfl<;>rfl
     case c3=>unfold maxLen;omega
     case c4=>omega
     case c5=>simp;omega
     rename_i nq;intro v' w2 hown2 hgrow _;have hown':(wr.drewN nq).ownsRow (w.heap.size+1+1) 39 2 (.slice ua q uc) q (Am (Zy (t1,n) (k',n') (l.take q))):=hown;have hB2:=((Bg (n:=nq) hB).alloc (show w.heap.size≤(wr.drewN nq).heap.size from hBs) (O7 t1 t2)).grown hgrow (by simp;omega) (fun j hj=>by have:=(hown.lt j hj).1;omega);have K1:Kp none 0 wr ((wr.drewN nq).alloc (O7 t1 t2)):=Kp.alloc (wr.drewN nq) _;have hC2:w2.heap[w.heap.size]?=some (O7 t1 n):=by
      rw[hgrow.block _ (by simp;omega) (fun hh=>by have:=(hown.lt _ hh.symm).1;omega)];exact K1 _ _ _ (Nat.zero_le _) hC (by simp)
     have hD2:w2.heap[w.heap.size+1]?=some (O7 k' n'):=by
      rw[hgrow.block _ (by simp;omega) (fun hh=>by have:=(hown.lt _ hh.symm).1;omega)];exact K1 _ _ _ (Nat.zero_le _) hD (by simp)
     have hown3:w2.ownsRow (w.heap.size+1+1) 39 2 v' (q+1) (Am (Zy (t1,n) (k',n') (l.take (q+1)))):=by rw[Aa HD,Bs];exact hown2
     clear hgrow hown hown' hown2 hB hC hD K1 x0 x1 y0 y1 z0 z1;go_wp2
     go_roundw
     case rel=>exact⟨q+1,by omega,by go_num,hown3,hB2,hC2,hD2⟩
     case measure=>simp[intOf];omega
   ·have he:(t1==k)=false:=by simpa using he1
    rw[if_neg (by simpa using fun h=>absurd h he1)]at hd;clear he1;have HD:=Ac hd;clear hd;go_wp2
    go_quiet (fail)
    go_wp2_with (at_builtin;refine wpList_append_own _ rfl _ _ 48 rfl (w.heap.size+1+1) 39 i0 _ 2 16 Tryz.underlying48 hi hz0 hz1 hz2 rfl (by decide) _ _ _ rfl (hown.alloc _) ⟨wr.heap.size,0,none⟩ 1 1 [.int .i64 t1,.int .i64 t2] rfl rfl ?c1 ?c2 ?c3 ?c4 ?c5 ?_)
    case c1=>exact Au _ _ _ _ rfl
    case c2=>intro u hu;simp at hu;rcases hu with rfl | rfl<;>rfl
    case c3=>unfold maxLen;omega
    case c4=>omega
    case c5=>simp;omega
    rename_i nq;intro v' w2 hown2 hgrow _;have hown':(wr.drewN nq).ownsRow (w.heap.size+1+1) 39 2 (.slice ua q uc) q (Am (Zy (k,n) (k',n') (l.take q))):=hown;have hB2:=((Bg (n:=nq) hB).alloc (show w.heap.size≤(wr.drewN nq).heap.size from hBs) (O7 t1 t2)).grown hgrow (by simp;omega) (fun j hj=>by have:=(hown.lt j hj).1;omega);have K1:Kp none 0 wr ((wr.drewN nq).alloc (O7 t1 t2)):=Kp.alloc (wr.drewN nq) _;have hC2:w2.heap[w.heap.size]?=some (O7 k n):=by
     rw[hgrow.block _ (by simp;omega) (fun hh=>by have:=(hown.lt _ hh.symm).1;omega)];exact K1 _ _ _ (Nat.zero_le _) hC (by simp)
    have hD2:w2.heap[w.heap.size+1]?=some (O7 k' n'):=by
     rw[hgrow.block _ (by simp;omega) (fun hh=>by have:=(hown.lt _ hh.symm).1;omega)];exact K1 _ _ _ (Nat.zero_le _) hD (by simp)
    have hown3:w2.ownsRow (w.heap.size+1+1) 39 2 v' (q+1) (Am (Zy (k,n) (k',n') (l.take (q+1)))):=by rw[Aa HD,Bs];exact hown2
    clear hgrow hown hown' hown2 hB hC hD K1 x0 x1 y0 y1 z0 z1;go_wp2
    go_roundw
    case rel=>exact⟨q+1,by omega,by go_num,hown3,hB2,hC2,hD2⟩
    case measure=>simp[intOf];omega
  ·have e:l.take q=l:=List.take_of_length_le (by omega);have e2:q=l.length:=by omega
   subst e2;rw[e]at hown;have hlt:(Zy (k,n) (k',n') l).length=l.length:=by simp[Zy]
   clear e;go_wp2;go_ret;exact⟨ua,uc,rfl,by unfold TysAt;rw[hlt];exact Ba hown (by omega),hB⟩
structure RFv where
 fa1:Option Addr
 fl:Nat
 fc1:Nat
 fa2:Option Addr
 fm:Nat
 fc2:Nat
def RFv.val (f:RFv):Value:=.agg #[.slice f.fa1 f.fl f.fc1,.slice f.fa2 f.fm f.fc2]
def RFl.v (f:RFl):RFv:=⟨f.a1,f.l.length,f.c1,f.a2,f.ms.length,f.c2⟩
def RFv.fitsAs (f:RFv) (T:List Int) (w:World):Prop:=∀ k n k' n' w',Below w.heap.size w w' →
 Calls Tryz.prog 96 #[f.val,.agg #[.int .i64 k,.int .i64 n],.agg #[.int .i64 k',.int .i64 n']] w' fun e w''=>e=.returned (.bool (Tr.rfits T k n k' n'))∧Below w'.heap.size w' w''
theorem RFl.fitsAs {f:RFl}{w:World} (hf:f.ok w):f.v.fitsAs f.T w:=fun k n k' n' w' hb=>Ds f.a1 f.a2 f.c1 f.ms.length f.c2 f.bb f.l k n k' n' w' (by have:=hf.1;omega) (hf.below hb).2.2.2.2.1
theorem Np (f:RFv) (T:List Int) (st wa:List (Int × Int)) (a1 a2:Option Addr) (n1 c1 n2 c2:Nat) (w:World) (hF:f.fitsAs T w) (h1:TyR w (.slice a1 n1 c1) st) (h2:TyR w (.slice a2 n2 c2) wa) (hl1:st.length≤20000) (hl2:wa.length≤20000) :
  Calls Tryz.prog 59 #[f.val,.slice a1 n1 c1,.slice a2 n2 c2] w fun e w'=>e=.returned (.bool (Abu T st wa))∧Below w.heap.size w w':=by
 obtain⟨rfl,-,-⟩:=h1.cap;obtain⟨rfl,-,-⟩:=h2.cap;obtain⟨fa1,fl,fc1,fa2,fm,fc2⟩:=f;unfold RFv.fitsAs at hF;simp only[RFv.val]at hF ⊢;have HF:=Ac hF;clear hF;have hB0:Below w.heap.size w (w.alloc (O11 fa1 fl fc1 fa2 fm fc2)):=QN _;have C0:=Ad w (O11 fa1 fl fc1 fa2 fm fc2);unfold Abu;by_cases hlt:st.length<wa.length
 ·rw[if_pos hlt];have hlt':(st.length:Int)-(wa.length:Int)<0:=by omega
  clear hlt;go_enter Tryz.func59,Tryz.ntmps59;go_wp2;go_ret;exact⟨rfl,hB0⟩
 ·rw[if_neg hlt];obtain⟨low,hlow⟩:∃ low:Nat,st.length=low+wa.length:=⟨st.length-wa.length,by omega⟩;have e0:st.length-wa.length=low:=by omega
  rw[e0];generalize hr:Ab3 T (st.drop low) wa=r;have HR:Hid (Ab3 T ((st.drop low).drop 0) (wa.drop 0)=r):=hr;have hsub:(st.length:Int)-(wa.length:Int)=(low:Int):=by omega
  have hle:low+wa.length≤st.length:=by omega
  have hge:st.length≤low+wa.length:=by omega
  clear hlt e0 hr hlow;go_enter Tryz.func59,Tryz.ntmps59;go_wp2
  go_loopw [8] (fun i wr=>∃ q:Nat,q≤wa.length∧i=.int .i64 (q:Int)∧Hid (Ab3 T ((st.drop low).drop q) (wa.drop q)=r)∧Below w.heap.size w wr∧wr.heap[w.heap.size]?=some (O11 fa1 fl fc1 fa2 fm fc2))
   (fun i _=>wa.length-(intOf i).toNat)
  case atStart=>exact⟨0,by omega,rfl,HR,hB0,C0⟩
  case round =>
   clear HR hB0 C0;obtain⟨q,hq,rfl,HR,hB,hC⟩:=hrel;have hBs:=hB.size;have lF:=lt_of_block hC;by_cases hkn:q<wa.length
   ·obtain⟨g,o,rfl,hg,hat⟩:=(h1.below hB).at (by omega);obtain⟨g2,o2,rfl,hg2,hat2⟩:=(h2.below hB).at (by omega);have hlq:low+q<st.length:=by omega
    obtain⟨x0,x1⟩:=hat (low+q) hlq;obtain⟨y0,y1⟩:=hat2 q hkn;have hr:=Aa HR;have e1:(st.drop low).drop q=st[low+q]::(st.drop low).drop (q+1):=by
     rw[List.drop_drop,List.drop_drop,List.drop_eq_getElem_cons hlq];rfl
    have e2:wa.drop q=wa[q]::wa.drop (q+1):=List.drop_eq_getElem_cons hkn;rw[e1,e2,Ab3]at hr;generalize st[low+q]=s at *;generalize wa[q]=t at *;obtain⟨s1,s2⟩:=s;obtain⟨t1,t2⟩:=t;simp only at x0 x1 y0 y1 hr;have hc:=Aa HF s1 s2 t1 t2 _ hB.drew;generalize Tr.rfits T s1 s2 t1 t2=A at *;have HC:=Ac hc;obtain⟨f0,f1⟩:=cl2 hC;simp at f0 f1;have kb:(q:Int)<(wa.length:Int):=by omega
    have kb2:(low:Int)+(q:Int)<(st.length:Int):=by omega
    have kw:IntKind.i64.wrap ((low:Int)+(q:Int))=(low:Int)+(q:Int):=Bd _ (by omega) (by omega);have kn:((low:Int)+(q:Int)).toNat=low+q:=by omega
    have k0:(0:Int)≤(low:Int)+(q:Int):=by omega
    clear hat hat2 e1 e2 hc HR;go_wp2
    go_region_held3 (fun w'=>w'.cell? ⟨w.heap.size,0,none⟩=some (.slice fa1 fl fc1)∧w'.cell? ⟨w.heap.size,1,none⟩=some (.slice fa2 fm fc2)∧w'.cell? ⟨g,o+(low+q)*2,none⟩=some (.int .i64 s1)∧w'.cell? ⟨g,o+(low+q)*2+1,none⟩=some (.int .i64 s2)∧w'.cell? ⟨g2,o2+q*2,none⟩=some (.int .i64 t1)∧w'.cell? ⟨g2,o2+q*2+1,none⟩=some (.int .i64 t2))
     (first | exact⟨f0,f1,x0,x1,y0,y1⟩ | exact⟨QC hb7 lF f0,QC hb7 lF f1,QC hb7 hg x0,QC hb7 hg x1,QC hb7 hg2 y0,QC hb7 hg2 y1⟩)
     (first | (go_at_call 96;refine(Aa HC).mono ?_;rintro e w7 ⟨rfl,hb7⟩))
    have hB7:=hB.drew.trans (hb7.mono hBs);have hC7:=stay hb7 (show (wr.drew).heap[w.heap.size]?=_ from hC);clear hb7 x0 x1 y0 y1 f0 f1 HC;cases A with
    | true =>
     have HG:Hid (Ab3 T ((st.drop low).drop (q+1)) (wa.drop (q+1))=r):=by unfold Hid;rw[← hr];simp
     clear hr;go_wp2
     go_roundw
     case rel=>exact⟨q+1,by omega,by go_num,HG,hB7,hC7⟩
     case measure=>simp[intOf];omega
    | false =>
     have HE:Hid (r=false):=by unfold Hid;rw[← hr];simp
     clear hr;go_wp2;go_ret;exact⟨by rw[Aa HE];rfl,hB7⟩
   ·have HE:Hid (r=true):=by unfold Hid;rw[← Aa HR,List.drop_eq_nil_of_le (by omega:wa.length≤q),Ab3]
    have kb:¬ (q:Int)<(wa.length:Int):=by omega
    clear HR;go_wp2;go_ret;exact⟨by rw[Aa HE];rfl,hB⟩
structure FrV where
 la:Option Addr
 ln:Nat
 lc:Nat
 sa:Option Addr
 sn:Nat
 sc:Nat
def FrV.val (v:FrV):Value:=.agg #[.slice v.la v.ln v.lc,.slice v.sa v.sn v.sc]
structure FrV.is (v:FrV) (x:Zt) (w:World):Prop where
 lo:TyR w (.slice v.la v.ln v.lc) x.locals
 st:TyR w (.slice v.sa v.sn v.sc) x.stack
 hl:x.locals.length≤5000
 hs:x.stack.length≤5000
theorem FrV.is.below {v:FrV}{x:Zt}{w w':World} (h:v.is x w) (hb:Below w.heap.size w w'):v.is x w':=⟨h.lo.below hb,h.st.below hb,h.hl,h.hs⟩
def Aad (op:Int):Bool:=decide (op=11∨op=12∨op=13∨op=14)
def Abv (op:Int):Bool:=decide (¬ (op=11∨op=22∨op=23))
theorem Ro (op:Int) (w:World):Calls Tryz.prog 142 #[.int .i64 op] w fun e w'=>e=.returned (.bool (Aad op))∧Below w.heap.size w w':=by
 unfold Aad;by_cases h:op=11∨op=12∨op=13∨op=14
 ·rcases h with rfl|rfl|rfl|rfl
  all_goals
   go_enter Tryz.func142,Tryz.ntmps142;go_wp2;go_ret;exact⟨rfl,Below.refl _ _⟩
 ·have h1:(op==11)=false:=by simp;omega
  have h2:(op==12)=false:=by simp;omega
  have h3:(op==13)=false:=by simp;omega
  have h4:(op==14)=false:=by simp;omega
  have hd:decide (op=11∨op=12∨op=13∨op=14)=false:=by simpa using h
  rw[hd];clear h hd;go_enter Tryz.func142,Tryz.ntmps142;go_wp2;go_ret;exact⟨rfl,Below.refl _ _⟩
theorem Vv (op:Int) (w:World):Calls Tryz.prog 140 #[.int .i64 op] w fun e w'=>e=.returned (.bool (Abv op))∧Below w.heap.size w w':=by
 unfold Abv;by_cases h:op=11∨op=22∨op=23
 ·rcases h with rfl|rfl|rfl
  all_goals
   go_enter Tryz.func140,Tryz.ntmps140;go_wp2;go_ret;exact⟨rfl,Below.refl _ _⟩
 ·have h1:(op != 11)=true:=by simp;omega
  have h2:(op != 22)=true:=by simp;omega
  have h3:(op != 23)=true:=by simp;omega
  have hd:decide (¬ (op=11∨op=22∨op=23))=true:=by simpa using h
  rw[hd];clear h hd;go_enter Tryz.func140,Tryz.ntmps140;go_wp2;go_ret;exact⟨rfl,Below.refl _ _⟩
def Adq (p:Int):List Rd.Mp→Option Zt
 | []=>none
 | m::r=>if m.place=p then some ⟨m.locals,m.stack⟩ else Adq p r
def Afc (x:Option Zt):Zt:=x.getD ⟨[],[]⟩
theorem rmapAt_any (m:RMV) (lm:List (Rd.Mp × Value × Value)) (bb:Nat) (p:Int) (w:World) (hml:m.ml=lm.length) (hm4:lm.length≤1000) (hfr:∀ q∈lm,q.1.locals.length≤5000∧q.1.stack.length≤5000) (hh:RMpsIn w bb (.slice m.ma m.ml m.mc) lm) :
  Calls Tryz.prog 97 #[m.val,.int .i64 p] w fun e w'=>∃ v:FrV,e=.returned (.tuple #[v.val,.bool (Adq p (lm.map Prod.fst)).isSome])∧v.is (Afc (Adq p (lm.map Prod.fst))) w'∧Below w.heap.size w w':=by
 generalize hr:Adq p (lm.map Prod.fst)=r;have HR:Hid (Adq p ((lm.map Prod.fst).drop 0)=r):=hr;obtain⟨cl,nm,pa,pl,pc,r1,r2,lo,st,code,ha,hl,hc,ma,ml,mc,mAt,fin⟩:=m;simp only[RMV.val]at hml hh ⊢;subst hml;have HMP:Hid (∀ w',Below w.heap.size w w'→RMpsIn w' bb (.slice ma lm.length mc) lm):=fun w' h=>hh.kp (Kp.of_below (e:=none) h) (by decide) (by decide);clear hr hh;have hB0:=Ak w (O14 cl nm pa pl pc r1 r2 lo st code ha hl hc ma lm.length mc mAt fin) (O25 none 0 0 none 0 0);have C0:=Ah w (O14 cl nm pa pl pc r1 r2 lo st code ha hl hc ma lm.length mc mAt fin) (O25 none 0 0 none 0 0);have D0:=Ag w (O14 cl nm pa pl pc r1 r2 lo st code ha hl hc ma lm.length mc mAt fin) (O25 none 0 0 none 0 0);go_enter Tryz.func97,Tryz.ntmps97;go_wp2
 go_loopw [6] (fun i wr=>∃ q:Nat,q≤lm.length∧i=.int .i64 (q:Int)∧Hid (Adq p ((lm.map Prod.fst).drop q)=r)∧wr=(w.alloc (O14 cl nm pa pl pc r1 r2 lo st code ha hl hc ma lm.length mc mAt fin)).alloc (O25 none 0 0 none 0 0))
  (fun i _=>lm.length-(intOf i).toNat)
 case atStart=>exact⟨0,by omega,rfl,HR,rfl⟩
 case round =>
  clear HR;obtain⟨q,hq,rfl,HR,rfl⟩:=hrel;by_cases hkn:q<lm.length
  ·have hmr:=Aa HMP _ hB0;obtain⟨g,hg,hglt,_,hcell⟩:=Ao hmr.1 (by omega);have y0:=(hcell _ (Bi lm q hkn 0 (by omega)).2).trans (Bi lm q hkn 0 (by omega)).1;have y1:=(hcell _ (Bi lm q hkn 1 (by omega)).2).trans (Bi lm q hkn 1 (by omega)).1;have y2:=(hcell _ (Bi lm q hkn 2 (by omega)).2).trans (Bi lm q hkn 2 (by omega)).1;have hty:=(Aa HMP _ (Below.refl _ _)).2 _ (List.getElem_mem hkn);have hlf:=hfr _ (List.getElem_mem hkn);have hd:(lm.map Prod.fst).drop q=lm[q].1::(lm.map Prod.fst).drop (q+1):=by
    rw[List.drop_eq_getElem_cons (by simpa using hkn)]
    simp
   have hr:=Aa HR;rw[hd,Adq]at hr;generalize lm[q]=t at *;obtain⟨⟨pl',lo',st'⟩,u1,u2⟩:=t;simp at y0 y1 y2;simp only at hty hr hlf;obtain⟨ty1,ty2⟩:=hty;obtain⟨a1,c1,rfl⟩:=Af ty1;obtain⟨a2,c2,rfl⟩:=Af ty2;have kb:(q:Int)<(lm.length:Int):=by omega
   clear hcell hd HR hmr;subst hg;by_cases he:pl'=p
   ·subst he;rw[if_pos rfl]at hr;have HE:=Ac hr;have his:FrV.is ⟨a1,lo'.length,c1,a2,st'.length,c2⟩ ⟨lo',st'⟩ ((w.alloc (O14 cl nm pa pl pc r1 r2 lo st code ha hl hc (some ⟨g,0,none⟩) lm.length mc mAt fin)).alloc (O25 a1 lo'.length c1 a2 st'.length c2)) :=
     ⟨(TyR.of_tys ty1).below (Ak _ _ _),(TyR.of_tys ty2).below (Ak _ _ _),hlf.1,hlf.2⟩
    clear hr ty1 ty2;go_wp2_with fail
    refine bodyPost_ret (v:=.tuple #[.agg #[.slice a1 lo'.length c1,.slice a2 st'.length c2],.bool true]) (by simp[results,Tryz.results97,go_sem]) rfl ?_;refine⟨⟨a1,lo'.length,c1,a2,st'.length,c2⟩,?_,?_,Ak _ _ _⟩
    ·rw[← Aa HE];rfl
    ·rw[← Aa HE];exact his
   ·rw[if_neg he]at hr;have HG:=Ac hr;have he':(pl' == p)=false:=by simpa using he
    clear hr he ty1 ty2;go_wp2
    go_roundw
    case rel=>exact⟨q+1,by omega,by go_num,HG,trivial⟩
    case measure=>simp[intOf];omega
  ·have HE:Hid (none=r):=by unfold Hid;rw[← Aa HR,List.drop_eq_nil_of_le (by simp;omega)];rfl
   have kb:¬ (q:Int)<(lm.length:Int):=by omega
   clear HR;go_wp2_with fail
   refine bodyPost_ret (v:=.tuple #[.agg #[.slice none 0 0,.slice none 0 0],.bool false]) (by simp[results,Tryz.results97,go_sem]) rfl ?_;refine⟨⟨none,0,0,none,0,0⟩,?_,?_,Ak _ _ _⟩
   ·rw[← Aa HE];rfl
   ·rw[← Aa HE];exact⟨TyR.nil _,TyR.nil _,Nat.zero_le _,Nat.zero_le _⟩
def Adt (cl:Int) (ps:List (Int × Int)):List (Int × Int):=(if cl=255 then [] else [(3,cl)])++ps
def Ade (cl:Int) (ps:List (Int × Int)) (lo:Nat):Zt:=⟨Adt cl ps++List.replicate (lo-(Adt cl ps).length) (0,0),[]⟩
theorem Si (m:RMV) (ps:List (Int × Int)) (lo':Nat) (w:World) (hlo:m.lo=(lo':Int)) (hl8:lo'≤1000) (hps:TyR w (.slice m.pa m.pl m.pc) ps) (hp8:ps.length≤1000) :
  Calls Tryz.prog 98 #[m.val] w fun e w'=>∃ v:FrV,e=.returned v.val∧v.is (Ade m.cl ps lo') w'∧Below w.heap.size w w':=by
 obtain⟨i0,hi,hz0,hz1,hz2⟩:=info_parts Tryz.infoType;obtain⟨cl,nm,pa,pl,pc,r1,r2,lo,st,code,ha,hl,hc,ma,ml,mc,mAt,fin⟩:=m;simp only[RMV.val]at hlo hps ⊢;subst hlo;have hRR:=fun w=>Cr cl w;have HRR:=Ac hRR;clear hRR;have hB0:=Ak w (O14 cl nm pa pl pc r1 r2 (lo':Int) st code ha hl hc ma ml mc mAt fin) (O25 none 0 0 none 0 0);have C0:=Ah w (O14 cl nm pa pl pc r1 r2 (lo':Int) st code ha hl hc ma ml mc mAt fin) (O25 none 0 0 none 0 0);have D0:=Ag w (O14 cl nm pa pl pc r1 r2 (lo':Int) st code ha hl hc ma ml mc mAt fin) (O25 none 0 0 none 0 0);unfold Ade;generalize hO:Adt cl ps=O;unfold Adt at hO
 -- what follows the head, for either head
 by_cases h1:cl=255
 ·subst h1;rw[if_pos rfl,List.nil_append]at hO;subst hO;go_enter Tryz.func98,Tryz.ntmps98;go_wp2_with (at_builtin;refine Bw rfl _ _ rfl (w.heap.size+1+1) _ [] ps pa pl pc rfl (World.ownsRow_nil _ _ _ _) rfl (hps.below hB0) (by simp;omega) (by simp) ?_)
  intro v' w1 hown1 hgrow;have hB1:=hB0.grown hgrow (by simp;omega) (fun j hj=>by simp[Value.ownBlock]at hj);have C1:=(hgrow.block _ (lt_of_block C0) (by simp[Value.ownBlock])).trans C0;have D1:=(hgrow.block _ (lt_of_block D0) (by simp[Value.ownBlock])).trans D0;clear hgrow C0 D0 hB0;have hs1:=hB1.size;have hown1':w1.ownsRow (w.heap.size+1+1) 39 2 v' (ps++List.replicate 0 ((0:Int),(0:Int))).length (Am (ps++List.replicate 0 ((0:Int),(0:Int)))):=by simpa using hown1
  go_wp2
  go_loopw [3] (fun v wr=>∃ q:Nat,q≤lo' - ps.length∧wr.ownsRow (w.heap.size+1+1) 39 2 v (ps.length+q) (Am (ps++List.replicate q ((0:Int),(0:Int))))∧Below w.heap.size w wr∧wr.heap[w.heap.size]?=some (O14 255 nm pa pl pc r1 r2 (lo':Int) st code ha hl hc ma ml mc mAt fin)∧wr.heap[w.heap.size+1]?=some (O25 none 0 0 none 0 0))
   (fun v _=>lo' - Dk v)
  case atStart=>exact⟨0,by omega,by simpa using hown1',hB1,C1,D1⟩
  case round =>
   clear hown1 hown1' hB1 C1 D1 hs1;obtain⟨q,hq,hown,hB,hC,hD⟩:=hrel;have hBs:=hB.size;have lC:=lt_of_block hC;have lD:=lt_of_block hD;obtain⟨ua,uc,rfl⟩:=Af hown;have x5:=Ab hC 5;simp at x5;by_cases hkn:ps.length+q<lo'
   ·have kb:((ps.length+q:Nat):Int)<(lo':Int):=by omega
    have HD:Hid (ps++List.replicate (q+1) ((0:Int),(0:Int))=ps++List.replicate q ((0:Int),(0:Int))++[((0:Int),(0:Int))]):=by unfold Hid;rw[List.replicate_succ',List.append_assoc]
    go_wp2_with (at_builtin;refine wpList_append_own _ rfl _ _ 48 rfl (w.heap.size+1+1) 39 i0 _ 2 16 Tryz.underlying48 hi hz0 hz1 hz2 rfl (by decide) _ _ _ rfl (hown.alloc _) ⟨wr.heap.size,0,none⟩ 1 1 [.int .i64 0,.int .i64 0] rfl rfl ?c1 ?c2 ?c3 ?c4 ?c5 ?_)
    case c1=>exact Au _ _ _ _ rfl
    case c2=>intro u hu;simp at hu;subst hu;rfl
    case c3=>unfold maxLen;omega
    case c4=>omega
    case c5=>simp;omega
    intro v2 w2 hown2 hgrow2 _;have hB2:=(hB.alloc hBs (O7 0 0)).grown hgrow2 (by simp;omega) (fun j hj=>by have:=(hown.lt j hj).1;omega);have C2:=(hgrow2.block _ (lt_of_block (Aj hC (O7 0 0))) (fun hh=>by have:=(hown.lt _ hh.symm).1;omega)).trans (Aj hC (O7 0 0));have D2:=(hgrow2.block _ (lt_of_block (Aj hD (O7 0 0))) (fun hh=>by have:=(hown.lt _ hh.symm).1;omega)).trans (Aj hD (O7 0 0));obtain⟨ua2,uc2,rfl⟩:=Af hown2;have hown3:w2.ownsRow (w.heap.size+1+1) 39 2 (.slice ua2 (ps.length+q+1) uc2) (ps.length+(q+1)) (Am (ps++List.replicate (q+1) ((0:Int),(0:Int)))):=by rw[Aa HD,Bs];exact hown2
    clear hgrow2 hown hown2 hB hC hD x5;go_wp2
    go_roundw
    case rel=>exact⟨q+1,by omega,hown3,hB2,C2,D2⟩
    case measure=>simp[Dk];omega
   ·have kb:¬ ((ps.length+q:Nat):Int)<(lo':Int):=by omega
    have eq:lo' - ps.length=q:=by omega
    obtain⟨z0,z1⟩:=cl2 hD;obtain⟨q0,q1⟩:=fr2 hD;simp at z0 z1;have hk1:=(Kp.set_lo (e:=none) (b:=w.heap.size+1+1) (i:=0) (g:=w.heap.size+1) (w:=wr) (by omega) (.slice ua (ps.length+q) uc)).trans (Kp.set_lo (i:=1) (g:=w.heap.size+1) (by omega) (.slice none 0 0));have hown3:=Av hown hk1 (by decide);have HEQ:=Ac eq;clear eq;go_wp2_with fail
    refine bodyPost_ret (v:=.agg #[.slice ua (ps.length+q) uc,.slice none 0 0]) (by simp[results,Tryz.results98,go_sem,z0,z1]) rfl ?_;refine⟨⟨ua,ps.length+q,uc,none,0,0⟩,rfl,⟨?_,TyR.nil _,?_,Nat.zero_le _⟩,(hB.setCell (by simp) _).setCell (by simp) _⟩
    ·rw[Aa HEQ];exact Bl hown3 (by simp)
    ·rw[Aa HEQ]
     simp
     omega
 ·have h1':(cl != 255)=true:=by simpa using h1
  rw[if_neg h1]at hO;clear h1;go_enter Tryz.func98,Tryz.ntmps98;go_wp2_with fail
  refine(Aa HRR _).mono ?_;rintro e w0 ⟨rfl,hb0⟩;have hB0':=QB hB0 hb0;have C0':=stay hb0 C0;have D0':=stay hb0 D0;have hs0:=hB0'.size;have ls0:=lt_of_block D0';have x2:=Ab C0' 2;have lC0:=lt_of_block C0';simp at x2;go_wp2_with (at_builtin;refine wpList_append_own _ rfl _ _ 48 rfl (w.heap.size+1+1) 39 i0 _ 2 16 Tryz.underlying48 hi hz0 hz1 hz2 rfl (by decide) _ _ _ rfl (World.ownsRow_nil _ _ _ _) ⟨w0.heap.size,0,none⟩ 1 1 [.int .i64 3,.int .i64 cl] rfl rfl ?c1 ?c2 ?c3 ?c4 ?c5 ?_)
  case c1=>exact Au _ _ _ _ rfl
  case c2=>intro u hu;simp at hu;rcases hu with rfl | rfl<;>rfl
  case c3=>unfold maxLen;omega
  case c4=>omega
  case c5=>simp;omega
  intro v0 w00 hown0 hgrow0 _;have hB00:=(hB0'.alloc hs0 (O7 3 cl)).grown hgrow0 (by simp;omega) (fun j hj=>by simp[Value.ownBlock]at hj);have C00:=(hgrow0.block _ (lt_of_block (Aj C0' (O7 3 cl))) (by simp[Value.ownBlock])).trans (Aj C0' (O7 3 cl));have D00:=(hgrow0.block _ (lt_of_block (Aj D0' (O7 3 cl))) (by simp[Value.ownBlock])).trans (Aj D0' (O7 3 cl));have hown0':w00.ownsRow (w.heap.size+1+1) 39 2 v0 ([((3:Int),cl)]:List (Int × Int)).length (Am [((3:Int),cl)]):=by simpa[Am] using hown0
  have hs00:=hB00.size;have ls00:=lt_of_block D00;have lC00:=lt_of_block C00;have x2':=Ab C00 2;simp at x2';clear hgrow0 hown0 C0 D0 hB0 hb0 C0' D0' hB0' x2;go_wp2_with (at_builtin;refine Bw rfl _ _ rfl (w.heap.size+1+1) _ [(3,cl)] ps pa pl pc rfl hown0' rfl (hps.below hB00) (by simp;omega) (by omega) ?_)
  intro v' w1 hown1 hgrow;have hB1:=hB00.grown hgrow (by omega) (fun j hj=>by have:=(hown0'.lt j hj).1;omega);have C1:=(hgrow.block _ (lt_of_block C00) (fun hh=>by have:=(hown0'.lt _ hh.symm).1;omega)).trans C00;have D1:=(hgrow.block _ (lt_of_block D00) (fun hh=>by have:=(hown0'.lt _ hh.symm).1;omega)).trans D00;have hOl:([((3:Int),cl)]++ps).length≤1001:=by simp;omega
  have hown1':w1.ownsRow (w.heap.size+1+1) 39 2 v' O.length (Am O):=hown1;rw[hO]at hOl;have HOL:=hOl;clear hgrow C00 D00 hB00 hown0' hown1 hO x2';have hs1:=hB1.size;go_wp2
  go_loopw [3] (fun v wr=>∃ q:Nat,q≤lo' - O.length∧wr.ownsRow (w.heap.size+1+1) 39 2 v (O.length+q) (Am (O++List.replicate q ((0:Int),(0:Int))))∧Below w.heap.size w wr∧wr.heap[w.heap.size]?=some (O14 cl nm pa pl pc r1 r2 (lo':Int) st code ha hl hc ma ml mc mAt fin)∧wr.heap[w.heap.size+1]?=some (O25 none 0 0 none 0 0))
   (fun v _=>lo' - Dk v)
  case atStart=>exact⟨0,by omega,by simpa using hown1',hB1,C1,D1⟩
  case round =>
   clear hown1' hB1 C1 D1 hs1;obtain⟨q,hq,hown,hB,hC,hD⟩:=hrel;have hBs:=hB.size;have lC:=lt_of_block hC;have lD:=lt_of_block hD;obtain⟨ua,uc,rfl⟩:=Af hown;have x5:=Ab hC 5;simp at x5;by_cases hkn:O.length+q<lo'
   ·have kb:((O.length+q:Nat):Int)<(lo':Int):=by omega
    have HD:Hid (O++List.replicate (q+1) ((0:Int),(0:Int))=O++List.replicate q ((0:Int),(0:Int))++[((0:Int),(0:Int))]):=by unfold Hid;rw[List.replicate_succ',List.append_assoc]
    go_wp2_with (at_builtin;refine wpList_append_own _ rfl _ _ 48 rfl (w.heap.size+1+1) 39 i0 _ 2 16 Tryz.underlying48 hi hz0 hz1 hz2 rfl (by decide) _ _ _ rfl (hown.alloc _) ⟨wr.heap.size,0,none⟩ 1 1 [.int .i64 0,.int .i64 0] rfl rfl ?c1 ?c2 ?c3 ?c4 ?c5 ?_)
    case c1=>exact Au _ _ _ _ rfl
    case c2=>intro u hu;simp at hu;subst hu;rfl
    case c3=>unfold maxLen;omega
    case c4=>omega
    case c5=>simp;omega
    intro v2 w2 hown2 hgrow2 _;have hB2:=(hB.alloc hBs (O7 0 0)).grown hgrow2 (by simp;omega) (fun j hj=>by have:=(hown.lt j hj).1;omega);have C2:=(hgrow2.block _ (lt_of_block (Aj hC (O7 0 0))) (fun hh=>by have:=(hown.lt _ hh.symm).1;omega)).trans (Aj hC (O7 0 0));have D2:=(hgrow2.block _ (lt_of_block (Aj hD (O7 0 0))) (fun hh=>by have:=(hown.lt _ hh.symm).1;omega)).trans (Aj hD (O7 0 0));obtain⟨ua2,uc2,rfl⟩:=Af hown2;have hown3:w2.ownsRow (w.heap.size+1+1) 39 2 (.slice ua2 (O.length+q+1) uc2) (O.length+(q+1)) (Am (O++List.replicate (q+1) ((0:Int),(0:Int)))):=by rw[Aa HD,Bs];exact hown2
    clear hgrow2 hown hown2 hB hC hD x5;go_wp2
    go_roundw
    case rel=>exact⟨q+1,by omega,hown3,hB2,C2,D2⟩
    case measure=>simp[Dk];omega
   ·have kb:¬ ((O.length+q:Nat):Int)<(lo':Int):=by omega
    have eq:lo' - O.length=q:=by omega
    obtain⟨z0,z1⟩:=cl2 hD;obtain⟨q0,q1⟩:=fr2 hD;simp at z0 z1;have hk1:=(Kp.set_lo (e:=none) (b:=w.heap.size+1+1) (i:=0) (g:=w.heap.size+1) (w:=wr) (by omega) (.slice ua (O.length+q) uc)).trans (Kp.set_lo (i:=1) (g:=w.heap.size+1) (by omega) (.slice none 0 0));have hown3:=Av hown hk1 (by decide);have HEQ:=Ac eq;clear eq;go_wp2_with fail
    refine bodyPost_ret (v:=.agg #[.slice ua (O.length+q) uc,.slice none 0 0]) (by simp[results,Tryz.results98,go_sem,z0,z1]) rfl ?_;refine⟨⟨ua,O.length+q,uc,none,0,0⟩,rfl,⟨?_,TyR.nil _,?_,Nat.zero_le _⟩,(hB.setCell (by simp) _).setCell (by simp) _⟩
    ·rw[Aa HEQ];exact Bl hown3 (by simp)
    ·rw[Aa HEQ]
     simp
     omega
end Go.Proofs.YtcefiamkoincoaaGreat
