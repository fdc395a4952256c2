/- a part of the proof -/
import Derived.Test.YtcefiamkoincoaaGreatPk27
set_option maxRecDepth 100000
set_option maxHeartbeats 40000000
set_option linter.unusedVariables false
set_option linter.unusedSimpArgs false
namespace Go.Proofs.YtcefiamkoincoaaGreat
open Go.RowKit
def Aak:Nat→List Acm→List Rd.Mp
 | _,[]=>[]
 | k,p::r=>if (p.on&&p.aim)=true then ⟨(k:Int),p.fr.locals,p.fr.stack⟩::Aak (k+1) r else Aak (k+1) r
theorem Ny (k:Nat) (p:Acm):∀ (l:List Acm),Aak k (l++[p])=Aak k l++Aak (k+l.length) [p]:=by
 intro l
 induction l generalizing k with
 | nil=>rfl
 | cons x r ih =>
  simp only[List.cons_append,Aak,ih,List.length_cons];rw[show k+1+r.length=k+(r.length+1) by omega]
  split<;>rfl
theorem Oh (s:Z8) (k:Nat) (hk:k<s.sp.length):Aak 0 (s.sp.take (k+1))=Aak 0 (s.sp.take k)++(if ((s.at k).on&&(s.at k).aim)=true then [⟨(k:Int),(s.at k).fr.locals,(s.at k).fr.stack⟩] else []):=by
 have e:s.sp.take (k+1)=s.sp.take k++[s.at k]:=by
  rw[List.take_succ_eq_append_getElem hk];unfold Z8.at;rw[List.getD_eq_getElem?_getD,List.getElem?_eq_getElem hk];rfl
 rw[e,Ny,List.length_take,Nat.zero_add,Nat.min_eq_left (by omega)];rfl
theorem Jm:∀ (l:List Ac7) (r:List Acm) (k:Nat),l.length=r.length→(∀ i (h:i<l.length) (h':i<r.length),l[i].wa=r[i].aim∧(r[i].aim=true→r[i].on=true∧l[i].fr=r[i].fr))→Aav k l=Aak k r
 | [],[],_,_,_=>rfl
 | [],_::_,_,h,_=>by simp at h
 | _::_,[],_,h,_=>by simp at h
 | p::l,q::r,k,h,hp=>by
  have h0:=hp 0 (by simp) (by simp);simp only[List.getElem_cons_zero]at h0;have ih:=Jm l r (k+1) (by simpa using h) (fun i h1 h2=>by
   have:=hp (i+1) (by simpa using h1) (by simpa using h2)
   simpa using this)
  unfold Aav Aak;by_cases ha:q.aim=true
  ·obtain⟨e1,e2⟩:=h0.2 ha;rw[if_pos (by rw[h0.1];exact ha),if_pos (by simp[ha,e1]),ih,e2]
  ·rw[if_neg (by rw[h0.1];exact ha),if_neg (by simp[ha]),ih]
def Aed (cs:List Rd.Cls) (ms:List Rd.Mth) (m:Rd.Mth):Option Z8:=Acg (Aa4 cs ms m) 31219
theorem Ht {cs:List Rd.Cls}{ms:List Rd.Mth} (k:Ace cs ms) {m:Rd.Mth} (hm:m∈ms):(Aa4 cs ms m).n*(Acv (Aa4 cs ms m).T (Aa4 cs ms m).lo (Aa4 cs ms m).hi+1)<31219:=by
 have g:=k.mt m hm;have h1:=g.bd.code;have h2:=g.rd.lo;have h3:=g.rd.st;have h4:=Cc cs;have h5:=k.l6;show m.code.length*(((Tr.tree cs).length+1)*(m.locals.toNat+m.stack.toNat)+1+1)<31219;have a:((Tr.tree cs).length+1)*(m.locals.toNat+m.stack.toNat)≤14*16:=Nat.mul_le_mul (by omega) (by omega);have b:m.code.length*(((Tr.tree cs).length+1)*(m.locals.toNat+m.stack.toNat)+1+1)≤120*(14*16+1+1):=Nat.mul_le_mul (by omega) (by omega);omega
theorem H8 {cs:List Rd.Cls}{ms:List Rd.Mth} (k:Ace cs ms) {m:Rd.Mth} (hm:m∈ms) (hc:0<m.code.length):Aaw cs ms m=(Aed cs ms m).map (fun t=>Aak 0 t.sp):=by
 have gE:=Ep k hm hc;obtain⟨hL,hA⟩:=Gb k hm;obtain⟨h1,h2⟩:=Rl gE hL hA (Ht k hm);have hlen:(Aba cs ms m).sp.length=m.code.length:=(Fo gE hL hA).2.1;unfold Aaw Aed;cases e:Acg (Aa4 cs ms m) 31219 with
 | none=>rw[if_pos (show (Aba cs ms m).hop=true from h1.2 e)];rfl
 | some t =>
  obtain⟨g1,g2⟩:=h2 t e;obtain⟨tl,tok,-⟩:=(Fd gE (Ht k hm)).1 t e;rw[if_neg (by rw[show (Aba cs ms m).hop=false from g1];simp)];simp only[Option.map_some,Option.some.injEq];refine Jm _ _ 0 (hlen.trans tl.symm) (fun i hi hi'=>?_);obtain⟨f1,f2⟩:=g2 i;have ea:(Aba cs ms m).sp[i]=(Aba cs ms m).at i:=by unfold Zv.at;rw[List.getD_eq_getElem?_getD,List.getElem?_eq_getElem hi];rfl
  have eb:t.sp[i]=t.at i:=by unfold Z8.at;rw[List.getD_eq_getElem?_getD,List.getElem?_eq_getElem hi'];rfl
  rw[ea,eb];refine⟨f2,fun ha=>?_⟩;have on:=(tok i).2 ha;refine⟨on,?_⟩;have:t.F i=some (t.at i).fr:=Cn.2 ⟨on,rfl⟩;rw[← f1]at this;exact(Ct.1 this).2
def Ab8 (s:ByteArray) (FD:Rd.Mth→Option Z8):ByteArray→Int→Nat→List Rf.Mth→ByteArray × Int × Int
 | out,i,_,[]=>(out++s.extract i.toNat s.size,0,0)
 | out,i,k,x::r=>match FD x.m with
  | none=>(⟨#[]⟩,10,(k:Int))
  | some t=>Ab8 s FD ((out++s.extract i.toNat x.mapsAt.toNat)++⟨(Ab7 (Aak 0 t.sp)).toArray⟩) x.fin (k+1) r
def Ae0 (s:ByteArray):ByteArray × Int × Int :=
 if (Rf.formed s.data.toList).1≠0 then (⟨#[]⟩,(Rf.formed s.data.toList).1,(Rf.formed s.data.toList).2.1)
 else Ab8 s (Aed (Rd.read s.data.toList).1.classes (Rd.read s.data.toList).1.methods) ⟨#[]⟩ 0 0 (Rf.fil s.data.toList).2.1
theorem Vm (s:ByteArray) (FD:Rd.Mth→Option Z8) (FM:Rd.Mth→Option (List Rd.Mp)) (ms:List Rf.Mth):∀ (out:ByteArray) (i j:Int) (k:Nat) (pre:List UInt8),Seg s.data.toList i j pre→Segs s.data.toList (s.size:Int) j ms →
  (∀ x∈ms,0≤x.fin∧x.fin≤(s.size:Int))→(∀ x∈ms,FM x.m=(FD x.m).map (fun t=>Aak 0 t.sp)) →
  Ab8 s FD out i k ms=match Aas FM (ms.map Rf.Mth.m) with
   | none=>(⟨#[]⟩,10,Ach FM k (ms.map Rf.Mth.m))
   | some r=>(⟨(out.data.toList++pre++r.flatMap Aby).toArray⟩,0,0):=by
 induction ms with
 | nil =>
  intro out i j k pre h g _ _;rw[Segs]at g;subst g;have:=Qb h;simp only[Int.toNat_natCast]at this;rw[Ab8];simp only[List.map_nil,Aas,List.flatMap_nil,List.append_nil,Prod.mk.injEq,and_true];apply Ij;rw[ByteArray.data_append,Array.toList_append,this]
 | cons x r ih =>
  intro out i j k pre h g hf hm;have hx:=hm x (by simp);rw[Ab8,List.map_cons,Aas,Ach,hx];cases e:FD x.m with
  | none=>simp
  | some t =>
   simp only[Option.map_some,Option.isSome_some,if_true];rw[ih _ x.fin x.fin (k+1) [] (Seg.nil (hf x (List.mem_cons_self ..)).1 (by simpa using (hf x (List.mem_cons_self ..)).2)) g.2 (fun y hy=>hf y (List.mem_cons_of_mem _ hy)) (fun y hy=>hm y (List.mem_cons_of_mem _ hy))];cases e2:Aas FM (r.map Rf.Mth.m) with
   | none=>simp
   | some q =>
    simp only[Option.map_some,Prod.mk.injEq,and_true];apply Ij;rw[ByteArray.data_append,ByteArray.data_append,Array.toList_append,Array.toList_append,Qb (h.app g.1)];rw[List.flatMap_cons];have:Aby (x.m.withMaps (Aak 0 t.sp))=Adr x.m++Ab7 (Aak 0 t.sp):=by
     unfold Aby;rfl
    rw[this]
    simp
theorem Ym (s:ByteArray):Ae0 s=(⟨(Acw s.data.toList).1.toArray⟩,(Acw s.data.toList).2.1,(Acw s.data.toList).2.2):=by
 unfold Ae0 Acw;by_cases h:(Rf.formed s.data.toList).1=0
 ·rw[if_neg (fun g=>g h),if_neg (fun g=>g h)];obtain⟨hf,hl⟩:=Kq _ h;obtain⟨i,h1,h2⟩:=Ww _ hf;obtain⟨i',h0,hch⟩:=Mk _ hf;have hfin:=Vh hch h0;obtain⟨k,c1,c2⟩:=Dz _ h;have hcode:=Fh _ (D8 h);simp only[Array.length_toList,ByteArray.size_data]at h2 hfin;rw[Vm s _ (Aaw (Rd.read s.data.toList).1.classes (Rd.read s.data.toList).1.methods) _ ⟨#[]⟩ 0 i 0 _ h1 h2 hfin (fun x hx=>by
   have hm:x.m∈(Rd.read s.data.toList).1.methods:=by rw[← c2];exact List.mem_map.2 ⟨x,hx,rfl⟩
   exact H8 k hm (hcode _ hm))]
  rw[c2];cases e:Aas (Aaw (Rd.read s.data.toList).1.classes (Rd.read s.data.toList).1.methods) (Rd.read s.data.toList).1.methods with
  | none=>rfl
  | some r =>
   simp only[Prod.mk.injEq,and_true];apply Ij;have hr:=(Fp _ _ e).1;have hn:(Rf.fil s.data.toList).2.1.length=r.length:=by rw[hr,← c2,List.length_map]
   unfold Adu;simp only;rw[c1,hn]
   simp
 ·rw[if_pos h,if_pos h]
theorem Ss {cs:List Rd.Cls}{ms:List Rd.Mth} (k:Ace cs ms) {m:Rd.Mth} (hm:m∈ms) (hc:0<m.code.length) {t:Z8} (h:Aed cs ms m=some t):(Ab7 (Aak 0 t.sp)).length≤5000∧t.sp.length=m.code.length∧∀ q,q<t.sp.length→(t.at q).on=true→(t.at q).fr.locals.length≤8∧(t.at q).fr.stack.length≤8:=by
 have hs:Aaw cs ms m=some (Aak 0 t.sp):=by rw[H8 k hm hc,h];rfl
 obtain⟨f1,f2⟩:=Jf k hm hc hs;have g:=k.mt m hm;have g4:=g.rd.lo;have g5:=g.rd.st;have g6:=g.bd.code;obtain⟨tl,tok,-⟩:=(Fd (Ep k hm hc) (Ht k hm)).1 t h;refine⟨?_,tl,fun q _ hon=>?_⟩
 ·have h3:=Iw Abr 34 _ (fun q hq=>by
   obtain⟨_,_,hP⟩:=f2 q hq;have l1:=hP.lo;have l2:=hP.hi;simp only at l1 l2;simp only[Abr,List.length_cons,List.length_append,Abi];omega)
  simp only[Ab7,List.length_cons];omega
 ·have hI:=(tok q).1 hon;have l1:_=m.locals.toNat:=hI.lo;have l2:_≤m.stack:=hI.hi;omega
theorem Zn {w:World}{a c:Nat}{x y:Int} (h0:w.cell? ⟨a,0,none⟩=some (.int .u8 (x % 256))) (h1:w.cell? ⟨a,1,none⟩=some (.int .u8 (y % 256))) :
  (convert 97 9 (.slice (some ⟨a,0,none⟩) 2 c)).run Tryz.prog w=.ok (.string ⟨#[Zw x,Zw y]⟩) w:=by
 refine run_convert_bytes_back (P:=Tryz.prog) w _ _ 5 ⟨a,0,none⟩ c [Zw x,Zw y] Tryz.underlying97 Tryz.underlying5 Tryz.underlying9 ?_;intro j hj;have:j=0∨j=1:=by simp at hj;omega
 rcases this with rfl|rfl
 ·simpa[Addr.add,Aer] using h0
 ·simpa[Addr.add,Aer] using h1
theorem Qx {w:World}{a c:Nat}{x:Int} (hx:0≤x∧x≤255) (h0:w.cell? ⟨a,0,none⟩=some (.int .u8 x)) :
  (convert 97 9 (.slice (some ⟨a,0,none⟩) 1 c)).run Tryz.prog w=.ok (.string ⟨#[Zw x]⟩) w:=by
 refine run_convert_bytes_back (P:=Tryz.prog) w _ _ 5 ⟨a,0,none⟩ c [Zw x] Tryz.underlying97 Tryz.underlying5 Tryz.underlying9 ?_;intro j hj;have:j=0:=by simp at hj;omega
 subst this;have e:x % 256=x:=Int.emod_eq_of_lt hx.1 (by omega)
 simpa[Addr.add,Aer,e] using h0
theorem Tx {l:List (Int × Int)}{k:Nat} (hk:k<l.length):Aah (l.take (k+1))=Aah (l.take k)++[Zw l[k].1,Zw l[k].2]:=by
 rw[List.take_succ_eq_append_getElem hk,Aah,Aah,List.flatMap_append];simp[Acu]
theorem Vi (a b:List UInt8):(⟨a.toArray⟩:ByteArray)++⟨b.toArray⟩=⟨(a++b).toArray⟩:=by
 apply Ij;rw[ByteArray.data_append,Array.toList_append]
theorem Is (a:List UInt8):(⟨a.toArray⟩:ByteArray).size=a.length:=by
 show a.toArray.size=a.length
 simp
theorem Io (l:List (Int × Int)) (a:Option Addr) (c:Nat) (w:World) (h:TyR w (.slice a l.length c) l) (hl:l.length≤1000) :
  Calls Tryz.prog 106 #[.slice a l.length c] w fun e w'=>e=.returned (.string ⟨(Aah l).toArray⟩)∧Below w.heap.size w w':=by
 go_enter Tryz.func106,Tryz.ntmps106;go_wp2
 go_loopw [3,4] (fun u v wr=>∃ (k:Nat) (ob:ByteArray),k≤l.length∧v=.int .i64 (k:Int)∧u=.string ob∧Hid (ob=⟨(Aah (l.take k)).toArray⟩)∧Below w.heap.size w wr)
  (fun _ v _=>l.length-(intOf v).toNat)
 case atStart=>exact⟨0,_,by omega,rfl,rfl,rfl,Below.refl _ _⟩
 case round =>
  obtain⟨k,ob,hk,rfl,rfl,HO,hB⟩:=hrel;have hBs:=hB.size;by_cases hkn:k<l.length
  ·obtain⟨g,o,hg,hglt,hat⟩:=(h.below hB).at (by omega);obtain⟨u0,u1⟩:=hat k hkn;have kb:(k:Int)<(l.length:Int):=by omega
   subst hg;have ho:=Aa HO;have hos:ob.size≤2000:=by rw[ho,Is,Abi,List.length_take];omega
   have ht:=Tx hkn;generalize l[k]=t at *;obtain⟨t1,t2⟩:=t;simp only at u0 u1 ht;have hadd:∀ w',(Op.stringOp .add ob ⟨#[Zw t1,Zw t2]⟩).run Tryz.prog w'=.ok (.string (ob++⟨#[Zw t1,Zw t2]⟩)) w':=fun w'=>run_string_add_sum w' _ _ (by have:(ByteArray.mk #[Zw t1,Zw t2]).size=2:=rfl;omega);have HO2:Hid (ob++⟨#[Zw t1,Zw t2]⟩=⟨(Aah (l.take (k+1))).toArray⟩):=by
    show _=_;rw[ho,ht,← Vi]
   have F0:=Ad wr (O33 (t1 % 256) (t2 % 256));have hcv:=Zn (w:=(wr.alloc (O33 (t1 % 256) (t2 % 256))).drew) (a:=wr.heap.size) (c:=2) (x:=t1) (y:=t2) (Ab F0 0) (Ab F0 1);have hB2:=(hB.alloc hBs (O33 (t1 % 256) (t2 % 256))).drew;clear hat ho HO F0 ht;go_wp2
   go_region
   go_wp2
   go_roundw
   case rel=>exact⟨k+1,_,by omega,by go_num,rfl,HO2,hB2⟩
   case measure=>simp[intOf];omega
  ·have ho:=Aa HO;rw[List.take_of_length_le (by omega)]at ho;subst ho;have kb:¬ (k:Int)<(l.length:Int):=by omega
   clear HO;go_wp2;go_ret;exact⟨rfl,hB⟩
theorem Lj {w:World}{z:Nat}{on aim:Bool}{la sa:Option Addr}{ln lc sn sc:Nat} (h:w.heap[z]?=some (O31 on aim la ln lc sa sn sc)):w.cell? ⟨z,0,none⟩=some (.bool on)∧w.cell? ⟨z,1,none⟩=some (.bool aim)∧w.cell? ⟨z,2,none⟩=some (.slice la ln lc)∧w.cell? ⟨z,3,none⟩=some (.slice sa sn sc):=by
 refine⟨?_,?_,?_,?_⟩<;>rw[Ab h]<;>rfl
theorem N3 (R G gc:Nat) (s:Z8) (w:World) (h:LrAt w R G gc s) (h120:s.sp.length≤120) (hfr:∀ q,q<s.sp.length→(s.at q).on=true→(s.at q).fr.locals.length≤8∧(s.at q).fr.stack.length≤8) :
  Calls Tryz.prog 65 #[.slice (some ⟨G,0,none⟩) s.sp.length gc] w fun e w'=>e=.returned (.string ⟨(Ab7 (Aak 0 s.sp)).toArray⟩)∧Below w.heap.size w w':=by
 have hat:=fun w' (hb:Below w.heap.size w w') i (hi:i<s.sp.length)=>(h.below hb).at hi;have lG:=(h.free 0).2;have hcap:=h.cap;have HAT:=Ac hat;have HFR:=Ac hfr;clear h hat hfr;go_enter Tryz.func65,Tryz.ntmps65;go_wp2
 go_loopw [3,4,5] (fun n u v wr=>∃ (k:Nat) (j:Nat) (ob:ByteArray),k≤s.sp.length∧v=.int .i64 (k:Int)∧n=.int .i64 (j:Int)∧u=.string ob∧j≤k∧ob.size≤40*k∧Hid (j=(Aak 0 (s.sp.take k)).length∧ob=⟨((Aak 0 (s.sp.take k)).flatMap Abr).toArray⟩)∧Below w.heap.size w wr)
  (fun _ _ v _=>s.sp.length-(intOf v).toNat)
 case atStart=>exact⟨0,0,⟨#[]⟩,by omega,rfl,rfl,rfl,by omega,Nat.le_refl _,⟨rfl,rfl⟩,Below.refl _ _⟩
 case round =>
  obtain⟨k,j,ob,hk,rfl,rfl,rfl,hjk,hos,HO,hB⟩:=hrel;have hBs:=hB.size;by_cases hkn:k<s.sp.length
  ·obtain⟨u,hu,z0,z1,z2,z3⟩:=Aa HAT wr hB k hkn;have hmt:=Oh s k hkn;have hf:=Aa HFR k hkn;obtain⟨o1,o2⟩:=Aa HO;obtain⟨la,ln,lc,sa,sn,sc⟩:=u;have hlo:=hu.lo;have hst:=hu.st;simp only at z2 z3 hlo hst;generalize s.at k=p at *;obtain⟨on,aim,fr⟩:=p;simp only at z0 z1 hf hmt hlo hst;have kb:(k:Int)<(s.sp.length:Int):=by omega
   have lGr:G<wr.heap.size:=by omega
   have F0:=Ad wr (O31 on aim la ln lc sa sn sc);have hB0:Below wr.heap.size wr (wr.alloc (O31 on aim la ln lc sa sn sc)):=QN _;have hBa:=hB.alloc hBs (O31 on aim la ln lc sa sn sc);have HO1:=Ac (And.intro o1 o2);have HMT:=Ac hmt;have HF:=Ac hf;have HLO:=Ac (hlo.below hB0);have HST:=Ac (hst.below hB0);clear hu HO o1 o2 hmt hf hlo hst;by_cases hon:on=true
   ·subst hon;by_cases hai:aim=true
    ·subst hai;obtain⟨hf1,hf2⟩:=Aa HF rfl;have hmt:=Aa HMT;obtain⟨o1,o2⟩:=Aa HO1;rw[if_pos (by rfl)]at hmt;have el:ln=fr.locals.length:=(Aa HLO).cap.1;have es:sn=fr.stack.length:=(Aa HST).cap.1;subst el es;have hw1:=fun w' h=>Io fr.locals la lc w' h (by omega);have hw2:=fun w' h=>Io fr.stack sa sc w' h (by omega);have HW1:=Ac hw1;have HW2:=Ac hw2;have HM:=Ac hmt;have HO2:=Ac (And.intro o1 o2);clear hw1 hw2 hmt o1 o2 HO1 HMT HF;obtain⟨s0,s1,s2,s3⟩:=Lj F0;have l0:=lt_of_block F0;go_wp2_with fail
     refine(Aa HW1 _ (Aa HLO)).mono ?_;rintro e w1 ⟨rfl,hb1⟩;have F1:=stay hb1 F0;have hB1:=QB hBa hb1;have HST1:=Ac ((Aa HST).below hb1);clear s0 s1 s2 s3;obtain⟨s0,s1,s2,s3⟩:=Lj F1;clear HLO HST F0 hb1 HW1 hBa hB0;go_wp2_with fail
     refine(Aa HW2 _ (Aa HST1)).mono ?_;rintro e w2 ⟨rfl,hb2⟩;have F2:=stay hb2 F1;have hB2:=QB hB1 hb2;have hBs2:=hB2.size;clear s0 s1 s2 s3;obtain⟨s0,s1,s2,s3⟩:=Lj F2;clear HST1 F1 hb2 HW2 hB1;have lF2:=lt_of_block F2;generalize hw1:(⟨(Aah fr.locals).toArray⟩:ByteArray)=t1 at *;generalize hw2:(⟨(Aah fr.stack).toArray⟩:ByteArray)=t2 at *;have z1':t1.size≤16:=by rw[← hw1,Is,Abi];omega
     have z2':t2.size≤16:=by rw[← hw2,Is,Abi];omega
     obtain⟨o1,o2⟩:=Aa HO2;have hmt:=Aa HM;have HE:=Ac (show j+1=(Aak 0 (s.sp.take (k+1))).length∧(((ob++⟨#[Zw (k:Int)]⟩)++t1)++⟨#[Zw (fr.stack.length:Int)]⟩)++t2=⟨((Aak 0 (s.sp.take (k+1))).flatMap Abr).toArray⟩ by
      refine⟨by rw[hmt,List.length_append,← o1];rfl,?_⟩;rw[o2,← hw1,← hw2,hmt,List.flatMap_append];apply Ij;simp[ByteArray.data_append,Array.toList_append,Abr])
     have A0:=Ad w2 (O22 (k:Int));have hcv1:=Qx (w:=w2.alloc (O22 (k:Int))) (a:=w2.heap.size) (c:=1) (x:=(k:Int)) ⟨by omega,by omega⟩ (Ab A0 0);have A1:=Ag w2 (O22 (k:Int)) (O22 (fr.stack.length:Int));have hcv2:=Qx (w:=(w2.alloc (O22 (k:Int))).alloc (O22 (fr.stack.length:Int))) (a:=w2.heap.size+1) (c:=1) (x:=(fr.stack.length:Int)) ⟨by omega,by omega⟩ (Ab A1 0);have q1:(ByteArray.mk #[Zw (k:Int)]).size=1:=rfl;have q2:(ByteArray.mk #[Zw (fr.stack.length:Int)]).size=1:=rfl;have hadd1:∀ w',(Op.stringOp .add ob ⟨#[Zw (k:Int)]⟩).run Tryz.prog w'=.ok (.string (ob++⟨#[Zw (k:Int)]⟩)) w':=fun w'=>run_string_add_sum w' _ _ (by omega);have n1:(ob++⟨#[Zw (k:Int)]⟩).size=ob.size+1:=by rw[ByteArray.size_append,q1]
     have hadd2:∀ w',(Op.stringOp .add (ob++⟨#[Zw (k:Int)]⟩) t1).run Tryz.prog w'=.ok (.string ((ob++⟨#[Zw (k:Int)]⟩)++t1)) w':=fun w'=>run_string_add_sum w' _ _ (by omega);have n2:((ob++⟨#[Zw (k:Int)]⟩)++t1).size=ob.size+1+t1.size:=by rw[ByteArray.size_append,n1]
     have hadd3:∀ w',(Op.stringOp .add ((ob++⟨#[Zw (k:Int)]⟩)++t1) ⟨#[Zw (fr.stack.length:Int)]⟩).run Tryz.prog w'=.ok (.string (((ob++⟨#[Zw (k:Int)]⟩)++t1)++⟨#[Zw (fr.stack.length:Int)]⟩)) w':=fun w'=>run_string_add_sum w' _ _ (by omega);have n3:(((ob++⟨#[Zw (k:Int)]⟩)++t1)++⟨#[Zw (fr.stack.length:Int)]⟩).size=ob.size+1+t1.size+1:=by rw[ByteArray.size_append,n2,q2]
     have hadd4:∀ w',(Op.stringOp .add (((ob++⟨#[Zw (k:Int)]⟩)++t1)++⟨#[Zw (fr.stack.length:Int)]⟩) t2).run Tryz.prog w'=.ok (.string ((((ob++⟨#[Zw (k:Int)]⟩)++t1)++⟨#[Zw (fr.stack.length:Int)]⟩)++t2)) w':=fun w'=>run_string_add_sum w' _ _ (by omega);have n4:((((ob++⟨#[Zw (k:Int)]⟩)++t1)++⟨#[Zw (fr.stack.length:Int)]⟩)++t2).size≤40*(k+1):=by rw[ByteArray.size_append,n3];omega
     have HN:=Ac n4;have hBf:=(hB2.alloc hBs2 (O22 (k:Int))).alloc (by simp;omega) (O22 (fr.stack.length:Int));clear o1 o2 hmt HO2 HM A0 A1 q1 q2 n1 n2 n3 n4 hw1 hw2;go_wp2
     go_roundw
     case rel=>exact⟨k+1,j+1,_,by omega,by go_num,by go_num,rfl,by omega,Aa HN,HE,hBf⟩
     case measure=>simp[intOf];omega
    ·have hai':aim=false:=by simpa using hai
     subst hai';have hmt:=Aa HMT;rw[if_neg (by simp),List.append_nil]at hmt;have HO2:=Ac (show j=(Aak 0 (s.sp.take (k+1))).length∧ob=⟨((Aak 0 (s.sp.take (k+1))).flatMap Abr).toArray⟩ by rw[hmt];exact Aa HO1);clear hmt HO1 HMT HF HLO HST;go_wp2
     go_roundw
     case rel=>exact⟨k+1,j,ob,by omega,by go_num,rfl,rfl,by omega,by omega,HO2,hBa⟩
     case measure=>simp[intOf];omega
   ·have hon':on=false:=by simpa using hon
    subst hon';have hmt:=Aa HMT;rw[if_neg (by simp),List.append_nil]at hmt;have HO2:=Ac (show j=(Aak 0 (s.sp.take (k+1))).length∧ob=⟨((Aak 0 (s.sp.take (k+1))).flatMap Abr).toArray⟩ by rw[hmt];exact Aa HO1);clear hmt HO1 HMT HF HLO HST;go_wp2
    go_roundw
    case rel=>exact⟨k+1,j,ob,by omega,by go_num,rfl,rfl,by omega,by omega,HO2,hBa⟩
    case measure=>simp[intOf];omega
  ·have kb:¬ (k:Int)<(s.sp.length:Int):=by omega
   obtain⟨o1,o2⟩:=Aa HO;rw[List.take_of_length_le (by omega)]at o1 o2;have F0:=Ad wr (O22 (j:Int));have hcv:=Qx (w:=wr.alloc (O22 (j:Int))) (a:=wr.heap.size) (c:=1) (x:=(j:Int)) ⟨by omega,by omega⟩ (Ab F0 0);have hadd:∀ w',(Op.stringOp .add ⟨#[Zw (j:Int)]⟩ ob).run Tryz.prog w'=.ok (.string (⟨#[Zw (j:Int)]⟩++ob)) w':=fun w'=>run_string_add_sum w' _ _ (by have:(ByteArray.mk #[Zw (j:Int)]).size=1:=rfl;omega);have HE:=Ac (show (⟨#[Zw (j:Int)]⟩:ByteArray)++ob=⟨(Ab7 (Aak 0 s.sp)).toArray⟩ by rw[o2,Ab7,← o1];exact Vi [Zw (j:Int)] _);have hBf:=hB.alloc hBs (O22 (j:Int));clear o1 o2 HO F0;go_wp2;go_ret;exact⟨by rw[Aa HE];rfl,hBf⟩
theorem Th {s:ByteArray}{FD:Rd.Mth→Option Z8}{out:ByteArray}{i:Int}{k:Nat}{x:Rf.Mth}{r:List Rf.Mth} (h:FD x.m=none):Ab8 s FD out i k (x::r)=(⟨#[]⟩,10,(k:Int)):=by rw[Ab8,h]
theorem Sy {s:ByteArray}{FD:Rd.Mth→Option Z8}{out:ByteArray}{i:Int}{k:Nat}{x:Rf.Mth}{r:List Rf.Mth}{t:Z8} (h:FD x.m=some t):Ab8 s FD out i k (x::r)=Ab8 s FD ((out++s.extract i.toNat x.mapsAt.toNat)++⟨(Ab7 (Aak 0 t.sp)).toArray⟩) x.fin (k+1) r:=by rw[Ab8,h]
theorem Nb (s:ByteArray) (FD:Rd.Mth→Option Z8) (w:World) (hs:s.size≤maxLen)
  (hLs:(Rf.formed s.data.toList).1=0→∀ (f:RFl) (m:RMV) (x:Rf.Mth) w',Below w.heap.size w w'→f.ok w'→f.l.map Prod.fst=Rf.given++(Rf.fil s.data.toList).1→f.ms.map Prod.fst=(Rf.fil s.data.toList).2.1→x∈(Rf.fil s.data.toList).2.1→m.is x w' f.bb →
   Calls Tryz.prog 64 #[f.val,m.val] w' fun e w''=>∃ a n c,e=.returned (.tuple #[.slice a n c,.bool (FD x.m).isSome])∧(∀ t,FD x.m=some t→∃ R G,a=some ⟨G,0,none⟩∧n=t.sp.length∧LrAt w'' R G c t)∧Below w'.heap.size w' w'')
  (hSh:(Rf.formed s.data.toList).1=0→∀ x∈(Rf.fil s.data.toList).2.1,∀ t,FD x.m=some t→(Ab7 (Aak 0 t.sp)).length≤5000∧t.sp.length≤120∧∀ q,q<t.sp.length→(t.at q).on=true→(t.at q).fr.locals.length≤8∧(t.at q).fr.stack.length≤8) :
  Calls Tryz.prog 37 #[.string s] w fun e w'=>∃ D:ByteArray × Int × Int,D=(if (Rf.formed s.data.toList).1≠0 then (⟨#[]⟩,(Rf.formed s.data.toList).1,(Rf.formed s.data.toList).2.1) else Ab8 s FD ⟨#[]⟩ 0 0 (Rf.fil s.data.toList).2.1) ∧
   e=.returned (.tuple #[.string D.1,.int .i64 D.2.1,.int .i64 D.2.2])∧Below w.heap.size w w':=by
 have hFm:=fun w=>Pt s w hs;have hb1:=N4 s.data.toList;have hb2:=Qa s.data.toList;unfold Jx at hFm;have hch:(Rf.formed s.data.toList).1=0→s.size≤15000∧∃ i,0≤i∧Rf.chain (s.size:Int) i (Rf.fil s.data.toList).2.1:=by
  intro h;obtain⟨h1,h2⟩:=Kq _ h;have:=Mk _ h1;simp only[Array.length_toList,ByteArray.size_data]at h2 this;exact⟨h2,this⟩
 generalize Rf.formed s.data.toList=P at *;generalize Rf.fil s.data.toList=Fi at *;obtain⟨P1,P2,P3⟩:=P;obtain⟨cs,ms,er⟩:=Fi;simp only at hFm hLs hSh hb1 hb2 hch ⊢;have HFM:=Ac hFm;have HLS:=Ac hLs;have HSH:=Ac hSh;clear hFm hLs hSh;by_cases h1:P1=0
 ·subst h1;rw[if_neg (by simp)];obtain⟨hsz,i0,hi0,hchn⟩:=hch rfl;generalize hR:Ab8 s FD ⟨#[]⟩ 0 0 ms=R;have HR:Hid (Ab8 s FD ⟨#[]⟩ 0 0 (ms.drop 0)=R):=hR;have HCH0:Hid (∃ i,(0:Int)≤i∧Rf.chain (s.size:Int) i (ms.drop 0)):=⟨i0,hi0,hchn⟩;clear hR hch hi0 hchn;go_enter Tryz.func37,Tryz.ntmps37;go_wp2_with fail
  refine(Aa HFM _).mono ?_;rintro e w1 ⟨a1,n1,c1,a2,n2,c2,rfl,hrep,hb⟩;obtain⟨l1,l2,hl1,hcs,hl2,hms⟩:=hrep (by trivial);obtain⟨xa,xc,hsh⟩:=Af hcs.1;simp only[Value.slice.injEq]at hsh;obtain⟨rfl,rfl,rfl⟩:=hsh;obtain⟨xa,xc,hsh⟩:=Af hms.1;simp only[Value.slice.injEq]at hsh;obtain⟨rfl,rfl,rfl⟩:=hsh;have hn1:l1.length=7+cs.length:=by have:=congrArg List.length hl1;simp[Rf.given]at this;omega
  have hn2:l2.length=ms.length:=by have:=congrArg List.length hl2;simpa using this
  have hok1:RFl.ok ⟨a1,c1,a2,c2,w.heap.size,l1,l2⟩ w1:=⟨by simp only;omega,by simp only;omega,by simp only;omega,Xy hl1 (p:=fun c=>c.fields.length≤1000) (by
   intro p hp;rcases List.mem_append.1 hp with hp | hp
   ·simp[Rf.given]at hp;rcases hp with rfl | rfl | rfl | rfl | rfl | rfl | rfl<;>simp
   ·exact hb1.2 p hp),hcs,hms⟩
  have hB1:=hb;have hs1:=hB1.size;have hok2:=hok1.below (QN (O11 a1 l1.length c1 a2 l2.length c2));have F1:=Ad w1 (O11 a1 l1.length c1 a2 l2.length c2);have hB2:=hB1.alloc hs1 (O11 a1 l1.length c1 a2 l2.length c2);have HL1:=Ac hl1;have HL2:=Ac hl2;have HN1:=Ac hn1;have HN2:=Ac hn2;clear hb hrep hcs hms hok1 hB1 HFM hl1 hl2 hn1 hn2;go_wp2
  go_loopw [9,10,11] (fun u t v wr=>∃ (k:Nat) (fr:Int) (ob:ByteArray),k≤l2.length∧v=.int .i64 (k:Int)∧t=.int .i64 fr∧u=.string ob∧0≤fr∧ob.size≤25000*k ∧
    Hid (∃ i,fr≤i∧Rf.chain (s.size:Int) i (ms.drop k))∧Hid (Ab8 s FD ob fr k (ms.drop k)=R)∧Below w.heap.size w wr∧wr.heap[w1.heap.size]?=some (O11 a1 l1.length c1 a2 l2.length c2)∧RFl.ok ⟨a1,c1,a2,c2,w.heap.size,l1,l2⟩ wr)
   (fun _ _ v _=>l2.length-(intOf v).toNat)
  case atStart=>exact⟨0,0,⟨#[]⟩,by omega,rfl,rfl,rfl,by omega,Nat.le_refl _,HCH0,HR,hB2,F1,hok2⟩
  case round =>
   clear HR hB2 F1 hok2 HCH0;obtain⟨k,fr,ob,hk,rfl,rfl,rfl,hfr,hob,HCH,HO,hB,CF,hok⟩:=hrel;have hBs:=hB.size;have lF:=lt_of_block CF;have hl6:=hok.2.2.1;simp only at hl6;obtain⟨f0,f1⟩:=cl2 CF;simp at f0 f1;by_cases hkn:k<l2.length
   ·obtain⟨m,g,hg,hglt,Bb,hm⟩:=RFl.mth hok (k:=k) hkn;simp only at hg hm;obtain⟨y0,y1,y2,y3,y4,y5,y6,y7,y8,y9,ya,yb⟩:=Ft Bb;have hqm:k<ms.length:=by have:=Aa HN2;omega
    have hx:l2[k].1=ms[k]:=by
     have:=Aa HL2;have h2:(l2.map Prod.fst)[k]?=ms[k]?:=by rw[this]
     simpa[hkn,hqm] using h2
    rw[hx]at hm;have hd:ms.drop k=ms[k]::ms.drop (k+1):=List.drop_eq_getElem_cons hqm;have ho:=Aa HO;rw[hd]at ho;obtain⟨i,hfi,hch⟩:=Aa HCH;rw[hd,Rf.chain,← hm.mAt,← hm.fin]at hch;obtain⟨ch1,ch2,ch3⟩:=hch;have ch4:=Oc ch3;have hmem:=List.getElem_mem hqm;have hck:=fun w' (hb:Below wr.heap.size wr w')=>Aa HLS (by trivial) ⟨a1,c1,a2,c2,w.heap.size,l1,l2⟩ m ms[k] w' (hB.trans (hb.mono hBs)) (hok.below hb) (Aa HL1) (Aa HL2) hmem (hm.below hb);have hsh:=Aa HSH (by trivial) ms[k] hmem;have emA:=hm.mAt;have efi:=hm.fin;generalize ms[k]=x at *;obtain⟨cl,nm,pa,pl,pc,r1,r2,lo,st,code,ha,hl,hc,ma,ml,mc,mAt,fin⟩:=m;simp only[RFl.val,RMV.val]at hck y0 y1 y2 y3 y4 y5 y6 y7 y8 y9 ya yb emA efi ch1 ch2 ch3 ch4;subst hg;have HCQ:=Ac hck;have kb:(k:Int)<(l2.length:Int):=by omega
    have b1:fr≤mAt:=by omega
    have b2:mAt≤(s.size:Int):=by omega
    have b3:0≤mAt:=by omega
    have hfin:0≤fin:=by omega
    have HCH2:Hid (∃ i,fin≤i∧Rf.chain (s.size:Int) i (ms.drop (k+1))):=⟨fin,by omega,ch3⟩;have hB0:Below wr.heap.size wr (wr.alloc (O14 cl nm pa pl pc r1 r2 lo st code ha hl hc ma ml mc mAt fin)):=QN _;have CM:=Ad wr (O14 cl nm pa pl pc r1 r2 lo st code ha hl hc ma ml mc mAt fin);have hBa:=hB.alloc hBs (O14 cl nm pa pl pc r1 r2 lo st code ha hl hc ma ml mc mAt fin);have hsa:=hBa.size;have CFa:=Aj CF (O14 cl nm pa pl pc r1 r2 lo st code ha hl hc ma ml mc mAt fin);have hoka:=hok.below hB0;have HO1:=Ac ho;have HS:=Ac hsh;clear hck hd Bb hm HO HCH ho hx hqm hsh hmem hok ch1 ch2 ch3 ch4 hfi;cases hfd:FD x.m with
    | none =>
     have ho:=Aa HO1;rw[Th hfd]at ho;obtain rfl:=ho;clear HO1 HS emA efi;rw[hfd]at HCQ;go_wp2_with fail
     refine(Aa HCQ _ hB0).mono ?_;rintro e w7 ⟨a,n,c,rfl,-,hb7⟩;have hB7:=hBa.trans (hb7.mono hsa);clear f0 f1 y0 y1 y2 y3 y4 y5 y6 y7 y8 y9 ya yb HCQ;go_wp2;go_ret3;exact⟨_,rfl,rfl,hB7⟩
    | some t =>
     have ho:=Aa HO1;rw[Sy hfd,← emA,← efi]at ho;obtain⟨hs1',hs2',hs3'⟩:=Aa HS t hfd;have hmp:=fun R G gc w' (h:LrAt w' R G gc t)=>N3 R G gc t w' h hs2' hs3';generalize hmw:(⟨(Ab7 (Aak 0 t.sp)).toArray⟩:ByteArray)=mw at *;have hmws:mw.size≤5000:=by rw[← hmw,Is];exact hs1'
     have hex:(s.extract fr.toNat mAt.toNat).size≤15000:=by rw[ByteArray.size_extract];omega
     have hadd1:∀ w',(Op.stringOp .add ob (s.extract fr.toNat mAt.toNat)).run Tryz.prog w'=.ok (.string (ob++s.extract fr.toNat mAt.toNat)) w':=fun w'=>run_string_add_sum w' _ _ (by omega);have hsz1:(ob++s.extract fr.toNat mAt.toNat).size≤25000*k+15000:=by rw[ByteArray.size_append];omega
     have hadd2:∀ w',(Op.stringOp .add (ob++s.extract fr.toNat mAt.toNat) mw).run Tryz.prog w'=.ok (.string ((ob++s.extract fr.toNat mAt.toNat)++mw)) w':=fun w'=>run_string_add_sum w' _ _ (by omega);have hsz2:((ob++s.extract fr.toNat mAt.toNat)++mw).size≤25000*(k+1):=by rw[ByteArray.size_append];omega
     have HMP:=Ac hmp;have HO2:=Ac ho;have HSZ:=Ac hsz2;clear HO1 HS ho hmp hs1' hs2' hs3' hmw hmws hex hsz1 hsz2 emA efi;rw[hfd]at HCQ;go_wp2_with fail
     refine(Aa HCQ _ hB0).mono ?_;rintro e w7 ⟨a,n,c,rfl,hall,hb7⟩;obtain⟨R',G,rfl,rfl,hlr⟩:=hall t rfl;have hB7:=hBa.trans (hb7.mono hsa);have CF7:=stay hb7 CFa;have CM7:=stay hb7 CM;have hok7:=hoka.below hb7;have HMQ:=Ac (Aa HMP R' G c w7 hlr);clear f0 f1 y0 y1 y2 y3 y4 y5 y6 y7 y8 y9 ya yb HCQ HMP hall hlr hb7 CFa CM hoka;go_wp2_with fail
     refine(Aa HMQ).mono ?_;rintro e w8 ⟨rfl,hb8⟩;have hB8:=QB hB7 hb8;have CF8:=stay hb8 CF7;have CM8:=stay hb8 CM7;have hok8:=hok7.below hb8;have m10:w8.cell? ⟨wr.heap.size,10,none⟩=some (.int .i64 mAt):=Ab CM8 10;have m11:w8.cell? ⟨wr.heap.size,11,none⟩=some (.int .i64 fin):=Ab CM8 11;clear HMQ hb8 CF7 CM7 hok7 CM8;go_wp2
     go_roundw
     case rel=>exact⟨k+1,fin,_,by omega,by go_num,rfl,rfl,hfin,Aa HSZ,HCH2,HO2,hB8,CF8,hok8⟩
     case measure=>simp[intOf];omega
   ·have hdn:ms.drop k=[]:=List.drop_eq_nil_of_le (by have:=Aa HN2;omega);have ho:=Aa HO;rw[hdn,Ab8]at ho;obtain rfl:=ho;obtain⟨i,hfi,hchn⟩:=Aa HCH;rw[hdn,Rf.chain]at hchn;have b2:fr≤(s.size:Int):=by omega
    have kb:¬ (k:Int)<(l2.length:Int):=by omega
    have hex:(s.extract fr.toNat s.size).size≤15000:=by rw[ByteArray.size_extract];omega
    have hadd1:∀ w',(Op.stringOp .add ob (s.extract fr.toNat s.size)).run Tryz.prog w'=.ok (.string (ob++s.extract fr.toNat s.size)) w':=fun w'=>run_string_add_sum w' _ _ (by omega);clear hdn HO HCH hchn hfi hex;go_wp2;go_ret3;exact⟨rfl,hB⟩
 ·have h1':(P1 != 0)=true:=by simpa using h1
  rw[if_pos (by simpa using h1)];clear h1 HLS HSH hch;go_enter Tryz.func37,Tryz.ntmps37;go_wp2_with fail
  refine(Aa HFM _).mono ?_;rintro e w1 ⟨a1,n1,c1,a2,n2,c2,rfl,-,hb⟩;go_wp2;go_ret3;exact⟨_,rfl,rfl,hb.alloc hb.size _⟩
theorem Pn {cs:List Rd.Cls}{ms:List Rd.Mth}{f:RFl}{m:RMV}{y:Rf.Mth}{w:World} (h:Adp cs ms f m y w) (hc:0<y.m.code.length) :
  Calls Tryz.prog 64 #[f.val,m.val] w fun e w'=>∃ a n c,e=.returned (.tuple #[.slice a n c,.bool (Aed cs ms y.m).isSome])∧(∀ t,Aed cs ms y.m=some t→∃ R G,a=some ⟨G,0,none⟩∧n=t.sp.length∧LrAt w' R G c t)∧Below w.heap.size w w':=by
 have g:=h.k.mt y.m h.mem;have ec:=h.is.code;have esz:=h.size;have h120:=g.bd.code;have hlo:=g.rd.lo;have hst:=g.rd.st;have gE:=Ep h.k h.mem hc;have hJ:=RFl.joinsAs h.ok (by rw[h.T];exact h.k.ok);rw[h.T]at hJ;have:=Rw gE f.v m f.bb w hJ esz (by show y.m.code.length≤1000;omega) h.is.st h.is.hl (by have:=g.bd.hs;show y.m.handlers.length≤1000;omega) (fun p=>by rw[ec];rfl) (fun p=>by rw[Ha,ec];rfl) (by show y.m.locals.toNat≤1000;omega) (by show y.m.stack≤1000;omega) (by rw[ec];rfl)
  (fun w' hb=>(h.is.below hb).hs) (fun w' hb=>P5 (h.below hb)) (fun p hp v x w' hb hv hx=>Ri (h.below hb) p v x hp hv hx)
 refine this.mono ?_;rintro e w' ⟨a,n,c,rfl,h1,h2⟩;refine⟨a,n,c,rfl,fun t ht=>?_,h2⟩;obtain⟨R,G,rfl,rfl,rfl,h3⟩:=h1 t ht;have tl:=((Fd gE (Ht h.k h.mem)).1 t ht).1;exact⟨R,G,rfl,tl.symm,h3⟩
theorem Nj (s:ByteArray) (w:World) (hs:s.size≤maxLen) :
  Calls Tryz.prog 37 #[.string s] w fun e w'=>e=.returned (.tuple #[.string ⟨(Acw s.data.toList).1.toArray⟩,.int .i64 (Acw s.data.toList).2.1,.int .i64 (Acw s.data.toList).2.2])∧Below w.heap.size w w':=by
 have h:=Nb s (Aed (Rd.read s.data.toList).1.classes (Rd.read s.data.toList).1.methods) w hs
  (fun h0 f m x w' hb hf hl hms hx hm=>by
   obtain⟨k,e1,e2⟩:=Dz _ h0;rw[e1]at hl;have hmem:x.m∈(Rd.read s.data.toList).1.methods:=by rw[← e2];exact List.mem_map.2 ⟨x,hx,rfl⟩
   refine Pn ⟨k,hf,hl,?_,hmem,hm⟩ (Fh _ (D8 h0) _ hmem);rw[← e2,← hms,List.map_map];rfl)
  (fun h0 x hx t ht=>by
   obtain⟨k,e1,e2⟩:=Dz _ h0;have hmem:x.m∈(Rd.read s.data.toList).1.methods:=by rw[← e2];exact List.mem_map.2 ⟨x,hx,rfl⟩
   obtain⟨a,b,c⟩:=Ss k hmem (Fh _ (D8 h0) _ hmem) ht;have:=(k.mt x.m hmem).bd.code;exact⟨a,by omega,c⟩)
 refine h.mono ?_;rintro e w' ⟨D,hD,rfl,hb⟩;have e:=Ym s;unfold Ae0 at e;rw[← hD]at e;rw[e];exact⟨rfl,hb⟩
theorem M6 (o:OpD) (p:Value) (w:World) (hs:o.file.size≤maxLen) (h1:o.kind=5) :
  Calls Tryz.prog 19 #[p,o.val] w fun e w'=>e=.returned (.bool true)∧Below w.heap.size w w':=by
 obtain⟨kind,s,k,n,k',n',entry,heap,depth,fuel,ia,il,ic⟩:=o;simp only[OpD.val]at hs h1 ⊢;subst h1;have hP:=fun w=>Py s w hs;have hR:=fun w=>Nj s w hs;generalize Acw s.data.toList=D at *;obtain⟨D1,D2,D3⟩:=D;simp only at hP hR;generalize (⟨D1.toArray⟩:ByteArray)=B at *;have HP:=Ac hP;have HR:=Ac hR;clear hP hR;have C0:=Ad w (O34 5 s k n k' n' entry heap depth fuel ia il ic);have hB0:Below w.heap.size w (w.alloc (O34 5 s k n k' n' entry heap depth fuel ia il ic)):=QN _;go_enter Tryz.func19,Tryz.ntmps19;go_wp2_with fail
 refine(Aa HP _).mono ?_;rintro e w1 ⟨rfl,hb1⟩;have hB1:=hB0.trans (hb1.mono (by simp));have C1:=stay hb1 C0;have x1:=Ab C1 1;have l1:=lt_of_block C1;simp at x1;clear C0 hB0;go_wp2_with fail
 refine(Aa HR _).mono ?_;rintro e w2 ⟨rfl,hb2⟩;go_wp2;go_ret;exact⟨by simp,QB hB1 hb2⟩
theorem Ow (a:Option Addr) (len cap:Nat) (V:Nat→OpD) (w:World) (hlen:len≤9223372036854775807) (hV:OpsIn w a len V) (hok:∀ i,i<len→N9 (V i)) :
  Calls Tryz.prog 3 #[.slice a len cap] w fun e w'=>e=.returned (.bool true)∧Below w.heap.size w w':=by
 have hu:=Tk a len cap V 5 5 w hlen hV (fun i hi h1 h2 p w1=>M6 (V i) p w1 (hok i hi) (by omega));have HU:=Ac hu;clear hu hV hok;go_enter Tryz.func3,Tryz.ntmps3;go_wp2_with fail
 refine(Aa HU).mono ?_;rintro e w1 ⟨rfl,hb1⟩;go_wp2;go_ret;exact⟨rfl,hb1⟩
end Go.Proofs.YtcefiamkoincoaaGreat
