/- a part of the proofs -/
import Derived.Deep.MidRow
import Derived.Laws.MakeOwn
import Derived.Laws.Rows
import Derived.Maps.AppendAt
import Derived.Deep.RegionHeld3
import Derived.Deep.Cut
import Derived.BigQuiet
import Derived.Deep.Slices
import Derived.Deep.Strs
import Derived.WalkKit
import Derived.ProofKit
import Derived.OpenShut
import Derived.ShutString
import Derived.ChangeOld
import Derived.ChangeSlices
import Derived.Below
import Derived.Lib.SmallJoins
import Derived.Deep.RegionHeld
import Derived.Test.YtpcgnjolfahacaaGreatPk19
set_option maxRecDepth 100000
set_option maxHeartbeats 40000000
set_option linter.unusedVariables false
set_option linter.unusedSimpArgs false
namespace Go.Proofs.YtpcgnjolfahacaaGreat
open Go.RowKit
theorem Nv:∀ (l:List Rd.Mp),l.Pairwise (fun a b=>a.place<b.place)→∀ (j:Nat) (q:Rd.Mp),l[j]?=some q→Ab2 q.place l=some ⟨q.locals,q.stack⟩
 | [],_,_,_,h=>by simp at h
 | y::r,hp,0,q,h=>by
  simp only[List.getElem?_cons_zero,Option.some.injEq]at h;subst h;rw[Ab2,if_pos rfl]
 | y::r,hp,j+1,q,h=>by
  obtain⟨p1,p2⟩:=List.pairwise_cons.1 hp;have h':r[j]?=some q:=by simpa using h
  have:=p1 q (List.mem_of_getElem? h');rw[Ab2,if_neg (by omega)];exact Nv r p2 j q h'
theorem Ta (m:Rd.Mp) (st:Bool) (k:Nat) (t:Int × Int):(m.put st k t).place=m.place:=by unfold Rd.Mp.put;split<;>rfl
theorem Qh (m:Rd.Mp) (st:Bool) (k:Nat) (t:Int × Int):(m.put st k t).row st=(m.row st).set k t:=by cases st<;>rfl
theorem W9 {r:List Rd.Mth}{i:Nat}{m:Rd.Mth} (h:r[i]?=some m) (j:Nat) (q:Rd.Mp):(r.set i (m.putM j q)).map Rd.Mth.bare=r.map Rd.Mth.bare:=by
 have hi:=(List.getElem?_eq_some_iff.1 h).1;rw[List.map_set];have e:(m.putM j q).bare=m.bare:=rfl;rw[e];have:(r.map Rd.Mth.bare)[i]?=some m.bare:=by rw[List.getElem?_map,h];rfl
 apply List.ext_getElem?;intro n;rw[List.getElem?_set];by_cases en:i=n
 ·subst en;rw[if_pos rfl,if_pos (by simpa using hi),this]
 ·rw[if_neg en]
theorem Qt {s:List UInt8} (h0:(Rf.formed s).1=0) {r:List Rd.Mth} (hr:Aar (Aax (Rd.read s).1.classes (Rd.read s).1.methods) (Rd.read s).1.methods=some r) {i j k:Nat}{st:Bool}{m:Rd.Mth}{q:Rd.Mp}{t:Int × Int} (hi:r[i]?=some m) (hj:m.maps[j]?=some q) (hk:k<(q.row st).length)
  (hB:TyB t) (hf:Tr.fitsB (Tr.tree (Rd.read s).1.classes) t.1 t.2 (q.row st)[k].1 (q.row st)[k].2=true) (hne:t≠(q.row st)[k]) :
  (Adf (Aau ⟨(Rd.read s).1.classes,r.set i (m.putM j (q.put st k t))⟩)).1≠0:=by
 intro hz;have al:=Fx h0 hr;obtain⟨kk,_,_⟩:=Cg _ h0;have hcs:=Ev _ (Ch h0);have hi':=(List.getElem?_eq_some_iff.1 hi).1;have hj':=(List.getElem?_eq_some_iff.1 hj).1;have hb:(r.set i (m.putM j (q.put st k t))).map Rd.Mth.bare=(Rd.read s).1.methods.map Rd.Mth.bare:=(W9 hi j _).trans al.eq;have good:∀ x∈r,x.maps.length≤64∧∀ y∈x.maps,MpB x.locals x.stack y:=by
  intro x hx;obtain⟨m0,e0,mp,hmp,rfl⟩:=(D7 _ _ hr).2 x hx;obtain⟨a,b,_⟩:=Lr kk e0 (hcs m0 e0) hmp;exact⟨a,b⟩
 have hmr:=List.mem_of_getElem? hi;have hqm:=List.mem_of_getElem? hj;have hqB:=(good m hmr).2 q hqm;have setB:∀ (l:List (Int × Int)),(∀ x∈l,TyB x)→∀ x∈l.set k t,TyB x:=fun l hl x hx=>by
  rcases List.mem_or_eq_of_mem_set hx with h|rfl
  ·exact hl x h
  ·exact hB
 have hqB':MpB m.locals m.stack (q.put st k t):=by
  cases st with
  | true=>exact⟨hqB.pl,hqB.lo,by show ((q.stack.set k t).length:Int)≤_;rw[List.length_set];exact hqB.hi,hqB.tl,setB _ hqB.ts⟩
  | false=>exact⟨hqB.pl,by show ((q.locals.set k t).length:Int)=_;rw[List.length_set];exact hqB.lo,hqB.hi,setB _ hqB.tl,hqB.ts⟩
 have good':∀ x∈r.set i (m.putM j (q.put st k t)),x.maps.length≤64∧∀ y∈x.maps,MpB x.locals x.stack y:=by
  intro x hx;rcases List.mem_or_eq_of_mem_set hx with h | rfl
  ·exact good x h
  ·refine⟨by show (m.maps.set j _).length≤64;rw[List.length_set];exact(good m hmr).1,fun y hy=>?_⟩;rcases List.mem_or_eq_of_mem_set (show y∈m.maps.set j (q.put st k t) from hy) with h | rfl
   ·exact(good m hmr).2 y h
   ·exact hqB'
 have hFB:FilB ⟨(Rd.read s).1.classes,r.set i (m.putM j (q.put st k t))⟩:=FilB.remap (ms:=(Rd.read s).1.methods) (M3 s (Ch h0)) hb good';have rd:=Px hFB (Ll hFB);have p0:(Rf.formed (Aau ⟨(Rd.read s).1.classes,r.set i (m.putM j (q.put st k t))⟩)).1=0:=by
  unfold Adf Ael at hz;by_cases h:(Rf.formed (Aau ⟨(Rd.read s).1.classes,r.set i (m.putM j (q.put st k t))⟩)).1=0
  ·exact h
  ·rw[if_pos h]at hz;exact hz
 obtain⟨k2,_,_⟩:=Cg _ p0;have hmp2:=Pe p0;have hc2:=Ev _ (Ch p0);have hall:=(Wj p0).1 hz;rw[rd]at k2 hmp2 hc2 hall;simp only at k2 hmp2 hc2 hall;have hm':m.putM j (q.put st k t)∈r.set i (m.putM j (q.put st k t)):=List.mem_set hi' _;obtain⟨sol,_⟩:=Pq k2 hm' (hc2 _ hm') (hall _ hm');obtain⟨m0,mp,a1,a2,rfl⟩:=L9 _ _ hr i m hi;have hm0:=List.mem_of_getElem? a1;have eE:=Vw (cs:=(Rd.read s).1.classes) hb (m:=(m0.withMaps mp).putM j (q.put st k t)) (m0:=m0) rfl;rw[eE]at sol;have gE:=Ek kk hm0 (hcs m0 hm0);obtain⟨hL,hA⟩:=Ed kk hm0;obtain⟨_,_,s3,s4⟩:=Fh gE hL hA;obtain⟨hop,least⟩:=s4 _ sol;have hop':(Aak (Rd.read s).1.classes (Rd.read s).1.methods m0).hop=false:=hop;obtain⟨_,inps,_⟩:=s3 hop;unfold Aax at a2;rw[if_neg (by rw[hop'];simp)]at a2;cases a2;obtain⟨n,p,e1,e2,rfl⟩:=Dz _ _ _ hqm;have ea:(Aak (Rd.read s).1.classes (Rd.read s).1.methods m0).at n=p:=by unfold Z4.at;rw[List.getD_eq_getElem?_getD,e1];rfl
 have hst:((Aak (Rd.read s).1.classes (Rd.read s).1.methods m0).at n).st=true:=(Fc gE hL hA hop (q:=n) (by show ((Aak (Rd.read s).1.classes (Rd.read s).1.methods m0).at n).wa=true;rw[ea];exact e2)).1;have hFn:(Aa5 (Aaz (Rd.read s).1.classes (Rd.read s).1.methods m0) (Aag (Rd.read s).1.classes (Rd.read s).1.methods m0) (Cd.readL m0.code)).F n=some p.fr:=Cf.2 ⟨hst,by show ((Aak (Rd.read s).1.classes (Rd.read s).1.methods m0).at n).fr=p.fr;rw[ea]⟩;obtain⟨y,hy,hle⟩:=least n p.fr hFn;have hps:n∈Cd.places m0.code:=inps n (by rw[hFn];simp);have hasc:=(Ix _ _ _ (hmp2 _ hm')).1;have hP2:=fun z h=>Ep (k2.mt _ hm') (q:=((0+n:Nat):Int)) (z:=z) h;generalize hq:(⟨((0+n:Nat):Int),p.fr.locals,p.fr.stack⟩:Rd.Mp)=q at *;have hpl:q.place=(n:Int):=by rw[← hq];simp
 have hget:((m0.withMaps (Aai 0 (Aak (Rd.read s).1.classes (Rd.read s).1.methods m0).sp)).putM j (q.put st k t)).maps[j]?=some (q.put st k t):=List.getElem?_set_self hj';have hMp:=Nv _ hasc j _ hget;rw[Ta,hpl]at hMp;have hF2:Ae1 (Rd.read s).1.classes (r.set i ((m0.withMaps (Aai 0 (Aak (Rd.read s).1.classes (Rd.read s).1.methods m0).sp)).putM j (q.put st k t))) ((m0.withMaps (Aai 0 (Aak (Rd.read s).1.classes (Rd.read s).1.methods m0).sp)).putM j (q.put st k t)) n=some ⟨(q.put st k t).locals,(q.put st k t).stack⟩ :=
  (if_pos hps).trans (Ea (m:=(m0.withMaps (Aai 0 (Aak (Rd.read s).1.classes (Rd.read s).1.methods m0).sp)).putM j (q.put st k t)) hps hMp)
 rw[hF2]at hy;cases hy;have hPz:=hP2 _ (by rw[Nat.zero_add];exact hMp);have hPf:Acd (Tr.tree (Rd.read s).1.classes) m0 p.fr:=(s3 hop).1.inv n p.fr hFn;have hrow:Aas (Tr.tree (Rd.read s).1.classes) (q.row st) ((q.put st k t).row st):=by
  rw[← hq]at hle ⊢;cases st with
  | true=>exact hle.st
  | false=>exact hle.lo
 have aq:Tr.Arg (Tr.tree (Rd.read s).1.classes) (q.row st)[k].1 (q.row st)[k].2:=by
  have hmem:=List.getElem_mem hk;generalize (q.row st)[k]=x at *;rw[← hq]at hmem;cases st with
  | true=>exact(hPf.ts x hmem).1
  | false=>exact(hPf.tl x hmem).1
 have at':Tr.Arg (Tr.tree (Rd.read s).1.classes) t.1 t.2:=by
  have hmem:t∈(q.put st k t).row st:=by rw[Qh];exact List.mem_set hk _
  cases st with
  | true=>exact(hPz.ts t hmem).1
  | false=>exact(hPz.tl t hmem).1
 rw[Qh]at hrow;have hF:=hrow.getD k;rw[List.getD_eq_getElem?_getD,List.getD_eq_getElem?_getD,List.getElem?_eq_getElem hk,List.getElem?_set_self hk]at hF;obtain⟨x1,x2⟩:=Tr.fits_anti kk.ok at' aq hf hF;exact hne (Prod.ext x1 x2)
def Kr.pk (c n:Int):Int:=if c<0 then (-(c+1)) % n else c % n
theorem Td (c n:Int) (hn:0<n):0≤Kr.pk c n∧Kr.pk c n<n:=by
 unfold Kr.pk
 split
 ·exact⟨Int.emod_nonneg _ (by omega),Int.emod_lt_of_pos _ hn⟩
 ·exact⟨Int.emod_nonneg _ (by omega),Int.emod_lt_of_pos _ hn⟩
theorem Uy (c n:Int) (w:World) (hc0:-9223372036854775808≤c) (hc1:c≤9223372036854775807) (hn:0<n) (hn1:n≤1000000) :
  Calls Tryz.prog 16 #[.int .i64 c,.int .i64 n] w fun e w'=>e=.returned (.int .i64 (Kr.pk c n))∧w'=w:=by
 unfold Kr.pk;by_cases h:c<0
 ·rw[if_pos h];go_enter Tryz.func16,Tryz.ntmps16;go_wp2;go_ret;exact⟨Ks (by rw[← Int.neg_tmod,Int.tmod_eq_emod_of_nonneg (by omega)]),rfl⟩
 ·rw[if_neg h];go_enter Tryz.func16,Tryz.ntmps16;go_wp2;go_ret;exact⟨rfl,rfl⟩
theorem Qv (w:World):Calls Tryz.prog 13 #[] w fun e w'=>e=.returned (.bool true)∧Below w.heap.size w w':=by
 have hC:=fun w=>Mf Adr w (by decide);have hP:=fun w=>Jg Aez w (by decide);have hS:=fun w=>Tt Adr w (by decide);rw[Vs,Zo]at hP;rw[Ve,N4]at hS;rw[Vk]at hC;generalize (Adf Adr.data.toList).2.1=c1 at *;generalize (Adf Adr.data.toList).2.2=c2 at *;simp only[Adr,Aez]at hC hP hS;have HC:=Ac hC;have HP:=Ac hP;have HS:=Ac hS;clear hC hP hS;go_enter Tryz.func13,Tryz.ntmps13;go_wp2_with fail
 refine(Aa HC _).mono ?_;rintro e w1 ⟨rfl,hb1⟩;go_wp2_with fail
 refine(Aa HP _).mono ?_;rintro e w2 ⟨rfl,hb2⟩;have hB2:=QB hb1 hb2;go_wp2_with fail
 refine(Aa HS _).mono ?_;rintro e w3 ⟨rfl,hb3⟩;have hB3:=QB hB2 hb3;go_wp2;go_ret;exact⟨by simp,hB3⟩
def Kr.nb (n:Int):ByteArray:=⟨#[n.toNat.toUInt8]⟩
theorem Nu (n:Int) (w:World) (h0:0≤n) (h1:n≤255) :
  Calls Tryz.prog 34 #[.int .i64 n] w fun e w'=>e=.returned (.string (Kr.nb n))∧Below w.heap.size w w':=by
 have hk:(convert 120 9 (.slice (some ⟨w.heap.size,0,none⟩) 1 1)).run Tryz.prog (w.alloc (O14 n))=.ok (.string ⟨#[n.toNat.toUInt8]⟩) (w.alloc (O14 n)):=by
  refine run_convert_bytes_back (P:=Tryz.prog) _ _ _ 5 _ 1 [n.toNat.toUInt8] Tryz.underlying120 Tryz.underlying5 Tryz.underlying9 ?_;intro j hj;have hj0:j=0:=by simp at hj;omega
  subst hj0;have h2:=Av w [.int .u8 n] 5 w.heap.size rfl 0 (.int .u8 n) rfl;rw[h2]
  simp
  omega
 go_enter Tryz.func34,Tryz.ntmps34;go_wp2;go_ret;exact⟨rfl,QN _⟩
theorem Xf (c n:Int) (w:World) (hc0:-9223372036854775808≤c) (hc1:c≤9223372036854775807) (hn:0<n) (hn1:n≤1000000) :
  Calls Tryz.prog 16 #[.int .i64 c,.int .i64 n] w fun e w'=>e=.returned (.int .i64 (Kr.pk c n))∧w=w' :=
 (Uy c n w hc0 hc1 hn hn1).mono fun _ _ h=>⟨h.1,h.2.symm⟩
theorem Pd {s P:List UInt8} (hp:Abs s=(P,0,0)) {x:Nat} (hx:x∈Et.ents P) :
  ∃ o:Int × Int,x+1<P.length∧P[x]?=some (Zy o.1)∧P[x+1]?=some (Zy o.2)∧TyB o ∧
   ∀ t,TyB t→Tr.fitsB (Tr.tree (Rd.read P).1.classes) t.1 t.2 o.1 o.2=true→t≠o→(Adf (P.take x++(Aav t++P.drop (x+2)))).1≠0:=by
 unfold Abs at hp;by_cases h0:(Rf.formed s).1≠0
 ·rw[if_pos h0]at hp;simp only[Prod.mk.injEq]at hp;exact absurd hp.2.1 h0
 rw[if_neg h0]at hp;have h0':(Rf.formed s).1=0:=by simpa using h0
 cases hr:Aar (Aax (Rd.read s).1.classes (Rd.read s).1.methods) (Rd.read s).1.methods with
 | none=>rw[hr]at hp;simp at hp
 | some r =>
  rw[hr]at hp;simp only[Prod.mk.injEq,and_true]at hp;have al:=Fx h0' hr;rw[hp]at al;have fb:FilB ⟨(Rd.read s).1.classes,r⟩:=by
   have:=M3 P (by rw[al.rd])
   rwa [al.rd]at this
  rw[← hp]at hx;obtain⟨i,m,j,q,st,k,hi,hj,hk,hxe⟩:=Yr fb x hx;have core:=fun t hB hf hne=>Qt (t:=t) h0' hr hi hj hk hB hf hne;obtain⟨hi1,hie⟩:=List.getElem?_eq_some_iff.1 hi;obtain⟨hj1,hje⟩:=List.getElem?_eq_some_iff.1 hj;have hole:=fun t=>Wu (cs:=(Rd.read s).1.classes) hi1 (m:=m.putM j (q.put st k t)) (o:=(q.row st)[k]) (t:=t) (by rw[hie];exact Wg hj1 (q:=q.put st k t) (p:=q.off st k) (by rw[hje];exact Xk hk t));rw[hp]at hole;rw[← hxe]at hole;have qB:=(fb.mb m (List.mem_of_getElem? hi)).mb q (List.mem_of_getElem? hj);have oB:TyB (q.row st)[k]:=by
   cases st with
   | true=>exact qB.ts _ (List.getElem_mem _)
   | false=>exact qB.tl _ (List.getElem_mem _)
  obtain⟨b1,b2,b3,_⟩:=(hole (0,0)).bytes;refine⟨(q.row st)[k],b1,b2,b3,oB,fun t hB hf hne=>?_⟩;rw[al.rd]at hf;have:=core t hB hf hne
  rwa [(hole t).bytes.2.2.2]at this
theorem Y0 {s:ByteArray}{i:Nat} (h:i<s.size):(Et.at s.data.toList i:Int)=(s[i].toNat:Int):=by
 have h':i<s.data.toList.length:=by simpa using h
 unfold Et.at;rw[List.getElem?_eq_getElem h'];rfl
theorem Yu {s:ByteArray}{i:Nat} (h:s.size≤i):Et.at s.data.toList i=0:=by
 unfold Et.at;rw[List.getElem?_eq_none (by simpa using h)];rfl
theorem Yb (s:ByteArray) (v:Int) (i:Nat) (hv:v=(i:Int)) (w:World) (_hs:s.size≤maxLen) :
  Calls Tryz.prog 48 #[.string s,.int .i64 v] w fun e w'=>e=.returned (.int .i64 (Et.at s.data.toList i:Int))∧w=w':=by
 subst hv;by_cases h:s.size≤i
 ·rw[Yu h];have h1:(s.size:Int)≤(i:Int):=by omega
  go_enter Tryz.func48,Tryz.ntmps48;go_wp2;go_ret;exact⟨rfl,rfl⟩
 ·have hk:i<s.size:=by omega
  rw[Y0 hk];go_enter Tryz.func48,Tryz.ntmps48;go_wp2;go_ret;exact⟨Ks (Mb _),rfl⟩
def Ti.L (l:List Nat):List Int:=l.map fun (n:Nat)=>(n:Int)
theorem Qf (l:List Nat) (n:Nat):Ti.L (l++[n])=Ti.L l++[(n:Int)]:=by simp[Ti.L]
theorem Hx (l:List Nat):(Ti.L l).length=l.length:=by simp[Ti.L]
theorem Lh (l:List Nat) (i j:Nat):l++Et.row i (j+1)=(l++Et.row i j)++[i+2*j]:=by simp[Et.row]
theorem M9 (s:ByteArray) (w:World) (hs:s.size≤15000) :
  Calls Tryz.prog 15 #[.string s] w fun e w'=>∃ a c,e=.returned (.slice a (Ti.L (Et.ents s.data.toList)).length c)∧IntsAt w' w.heap.size (.slice a (Ti.L (Et.ents s.data.toList)).length c) (Ti.L (Et.ents s.data.toList))∧(Et.ents s.data.toList).length≤250000∧Below w.heap.size w w':=by
 have hl:s.data.toList.length=s.size:=by simp
 have HA:Hid (∀ (v:Int) (i:Nat) (w:World),v=(i:Int)→Calls Tryz.prog 48 #[.string s,.int .i64 v] w fun e w'=>e=.returned (.int .i64 (Et.at s.data.toList i:Int))∧w=w'):=fun v i w hv=>Yb s v i hv w (by unfold maxLen;omega);unfold Et.ents;generalize s.data.toList=D at *;generalize hI:Et.skip D (Et.at D 2) 3=I0;have HI:=Ac hI;clear hI;generalize hR:Et.mths D (Et.at D I0) (I0+1) []=R;have HR:=Ac hR;clear hR;have q2:=Et.at_lt D 2;obtain⟨i0,hi,hz0,hz1,hz2⟩:=info_parts Tryz.infoInt;have hB0:=Below.refl w.heap.size w;go_enter Tryz.func15,Tryz.ntmps15;go_wp2_with (go_at_call 48;refine(Aa HA _ 2 _ rfl).mono ?_;rintro e w1 ⟨rfl,rfl⟩)
 go_loopw [4,5] (fun v4 v5 wr=>∃ k i:Nat,v4=.int .i64 (i:Int)∧v5=.int .i64 (k:Int)∧Hid (Et.skip D k i=I0)∧i+512*k≤200000∧w=wr)
  (fun _ v _=>(intOf v).toNat)
 case atStart=>exact⟨Et.at D 2,3,rfl,rfl,HI,by omega,rfl⟩
 case round =>
  obtain⟨k,i,rfl,rfl,HK,hb,rfl⟩:=hrel;clear HI q2;rcases Nat.eq_zero_or_pos k with rfl|hk
  ·obtain rfl:i=I0:=Aa HK;have q1:=Et.at_lt D i;go_wp2_with (go_at_call 48;refine(Aa HA _ i _ rfl).mono ?_;rintro e w1 ⟨rfl,rfl⟩)
   clear HK;have hb1:i+1≤250000:=by omega
   go_loopw [3,4,6] (fun v3 v4 v6 wr=>∃ (k i:Nat) (l:List Nat),v4=.int .i64 (i:Int)∧v6=.int .i64 (k:Int)∧Hid (Et.mths D k i l=R)∧IntsAt wr w.heap.size v3 (Ti.L l)∧l.length≤i∧k≤255∧i≤250000∧Below w.heap.size w wr)
    (fun _ _ v _=>(intOf v).toNat)
   case atStart=>exact⟨Et.at D i,i+1,[],by go_num,rfl,HR,World.ownsRow_nil _ _ _ _,by simp,q1,hb1,hB0⟩
   case round =>
    clear HR hB0 q1 hb1 hb;obtain⟨k,i,l,rfl,rfl,HR,hown,hli,hk8,hib,hB⟩:=hrel;obtain⟨va,vc,rfl⟩:=Ag hown;rcases Nat.eq_zero_or_pos k with rfl | hk
    ·obtain rfl:l=R:=Aa HR;go_wp2;go_ret;exact⟨_,_,rfl,hown,by omega,hB⟩
    ·obtain⟨k,rfl⟩:∃ j,k=j+1:=⟨k-1,by omega⟩;have kp:(0:Int)<((k+1:Nat):Int):=by omega
     by_cases hid:s.size≤i
     ·have hr:=Aa HR;rw[Et.mths,if_neg (by omega)]at hr;subst hr;have hid':¬ (i:Int)<(s.size:Int):=by omega
      go_wp2;go_ret;exact⟨_,_,rfl,hown,by omega,hB⟩
     ·have hr:=Aa HR;rw[Et.mths,if_pos (by omega)]at hr;have HR2:=Ac hr;clear hr HR;have hid':(i:Int)<(s.size:Int):=by omega
      have g1:=Et.at_lt D (i+2);have g2:=Et.at_lt D (Et.a1 D i+2);have g3:=Et.at_lt D (Et.a1 D i+4);have g4:=Et.at_lt D (Et.a2 D i);have g5:=Et.at_lt D (Et.a3 D i);have e1:Et.a1 D i=i+3+2*Et.at D (i+2):=rfl;have e2:Et.a2 D i=Et.a1 D i+4+1+Et.at D (Et.a1 D i+4):=rfl;have e3:Et.a3 D i=Et.a2 D i+1+4*Et.at D (Et.a2 D i):=rfl;generalize Et.a3 D i=A3 at *;generalize Et.a2 D i=A2 at *;generalize Et.a1 D i=A1 at *;have HA1:=Ac (fun v w h=>Aa HA v (i+2) w h);have HA2:=Ac (fun v w h=>Aa HA v (A1+2) w h);have HA3:=Ac (fun v w h=>Aa HA v (A1+4) w h);have HA4:=Ac (fun v w h=>Aa HA v A2 w h);have HA5:=Ac (fun v w h=>Aa HA v A3 w h);generalize Et.at D (i+2)=B1 at *;generalize Et.at D (A1+2)=lo at *;generalize Et.at D (A1+4)=B3 at *;generalize Et.at D A2=B4 at *;generalize Et.at D A3=mk at *;go_wp2_with (go_at_call 48;first | (refine(Aa HA1 _ _ (by omega)).mono ?_;rintro e w1 ⟨rfl,rfl⟩) | (refine(Aa HA2 _ _ (by omega)).mono ?_;rintro e w1 ⟨rfl,rfl⟩) | (refine(Aa HA3 _ _ (by omega)).mono ?_;rintro e w1 ⟨rfl,rfl⟩) | (refine(Aa HA4 _ _ (by omega)).mono ?_;rintro e w1 ⟨rfl,rfl⟩) | (refine(Aa HA5 _ _ (by omega)).mono ?_;rintro e w1 ⟨rfl,rfl⟩))
      go_loopw [3,4,8] (fun v3 v4 v8 wr=>∃ (n i:Nat) (l:List Nat),v4=.int .i64 (i:Int)∧v8=.int .i64 (n:Int)∧Hid (Et.mths D k (Et.maps D lo n i l).2 (Et.maps D lo n i l).1=R)∧IntsAt wr w.heap.size v3 (Ti.L l)∧l.length≤i∧n≤255∧i≤20000∧Below w.heap.size w wr)
       (fun _ _ v _=>(intOf v).toNat)
      case atStart=>exact⟨mk,A3+1,l,congrArg (Value.int .i64) (by omega),rfl,HR2,hown,by omega,g5,by omega,hB⟩
      case round =>
       clear HR2 HA1 HA2 HA3 HA4 HA5 hown hB hli hib;clear g1 g3 g4 g5 e1 e2 e3 hid hid';obtain⟨n,i,l,rfl,rfl,HR,hown,hli,hn8,hib,hB⟩:=hrel;obtain⟨va,vc,rfl⟩:=Ag hown;rcases Nat.eq_zero_or_pos n with rfl | hn
       ·go_wp2
        go_roundw
        case rel=>exact⟨k,i,l,rfl,congrArg (Value.int .i64) (by omega),HR,hown,hli,by omega,by omega,hB⟩
        case measure=>simp[intOf]<;>omega
       ·obtain⟨n,rfl⟩:∃ j,n=j+1:=⟨n-1,by omega⟩;have kn:(0:Int)<((n+1:Nat):Int):=by omega
        by_cases hid:s.size≤i
        ·have hr:=Aa HR;rw[Et.maps,if_neg (by omega)]at hr;have HR2:=Ac hr;clear hr HR;have hid':¬ (i:Int)<(s.size:Int):=by omega
         go_wp2
         go_roundw
         case rel=>exact⟨k,i,l,rfl,congrArg (Value.int .i64) (by omega),HR2,hown,hli,by omega,by omega,hB⟩
         case measure=>simp[intOf]<;>omega
        ·have hr:=Aa HR;rw[Et.maps,if_pos (by omega)]at hr;have HR2:=Ac hr;clear hr HR;have hid':(i:Int)<(s.size:Int):=by omega
         have g1:=Et.at_lt D (i+1+2*lo);have HA1:=Ac (fun v w h=>Aa HA v (i+1+2*lo) w h);generalize Et.at D (i+1+2*lo)=h at *;go_wp2_with (go_at_call 48;refine(Aa HA1 _ _ (by omega)).mono ?_;rintro e w1 ⟨rfl,rfl⟩)
         go_loopw [3,10] (fun v3 vj wr=>∃ (j:Nat),j≤lo∧vj=.int .i64 (j:Int)∧IntsAt wr w.heap.size v3 (Ti.L (l++Et.row (i+1) j))∧Below w.heap.size w wr)
          (fun _ v _=>lo-(intOf v).toNat)
         case atStart=>exact⟨0,by omega,rfl,by simpa[Et.row] using hown,hB⟩
         case round =>
          clear hown hB;obtain⟨j,hj,rfl,hown,hB⟩:=hrel;obtain⟨va,vc,rfl⟩:=Ag hown;have hsz:=hB.size;have hlr:(l++Et.row (i+1) j).length=l.length+j:=by rw[List.length_append,Et.row_len]
          by_cases hjl:j<lo
          ·go_wp2_with (at_builtin;refine wpList_append_own _ rfl _ _ 26 rfl w.heap.size 3 i0 _ 1 8 Tryz.underlying26 hi hz0 hz1 hz2 rfl (by decide) _ _ _ rfl (hown.alloc _) ⟨wr.heap.size,0,none⟩ 1 1 [.int .i64 ((i:Int)+1+2*(j:Int))] rfl rfl ?c1 ?c2 ?c3 ?c4 ?c5 ?_)
           case c1=>exact Av _ _ _ _ rfl
           case c2=>intro u hu;simp at hu;subst hu;rfl
           case c3=>rw[Hx,hlr];unfold maxLen;omega
           case c4=>rw[Hx,hlr];omega
           case c5=>simp;omega
           intro v' w2 hown2 hgrow _;obtain⟨va',vc',rfl⟩:=Ag hown2;have hown3:IntsAt w2 w.heap.size (.slice va' ((Ti.L (l++Et.row (i+1) j)).length+1) vc') (Ti.L (l++Et.row (i+1) (j+1))):=by
            have ev:((i:Int)+1+2*(j:Int))=((i+1+2*j:Nat):Int):=by omega
            rw[ev]at hown2;rw[Lh,Qf]
            simpa[IntsAt] using hown2
           have hB2:=(hB.alloc hsz (O4 ((i:Int)+1+2*(j:Int)))).grown hgrow (by simp;omega) (fun j hj=>(hown.lt j hj).1);clear hgrow hown hown2 hB;go_wp2
           go_roundw
           case rel=>exact⟨j+1,by omega,by go_num,hown3,hB2⟩
           case measure=>simp[intOf]<;>omega
          ·obtain rfl:j=lo:=by omega
           have hlen:(l++Et.row (i+1) j).length=l.length+j:=hlr;generalize hm:l++Et.row (i+1) j=m at *;have HM:=Ac hm;clear hm hlr;go_wp2
           go_loopw [3,11] (fun v3 vj wr=>∃ (q:Nat),q≤h∧vj=.int .i64 (q:Int)∧IntsAt wr w.heap.size v3 (Ti.L (m++Et.row (i+2+2*j) q))∧Below w.heap.size w wr)
            (fun _ v _=>h-(intOf v).toNat)
           case atStart=>exact⟨0,by omega,rfl,by simpa[Et.row] using hown,hB⟩
           case round =>
            clear hown hB;obtain⟨q,hq,rfl,hown,hB⟩:=hrel;obtain⟨va,vc,rfl⟩:=Ag hown;have hsz:=hB.size;have hlr:(m++Et.row (i+2+2*j) q).length=m.length+q:=by rw[List.length_append,Et.row_len]
            by_cases hql:q<h
            ·go_wp2_with (at_builtin;refine wpList_append_own _ rfl _ _ 26 rfl w.heap.size 3 i0 _ 1 8 Tryz.underlying26 hi hz0 hz1 hz2 rfl (by decide) _ _ _ rfl (hown.alloc _) ⟨wr.heap.size,0,none⟩ 1 1 [.int .i64 ((i:Int)+2+2*(j:Int)+2*(q:Int))] rfl rfl ?c1 ?c2 ?c3 ?c4 ?c5 ?_)
             case c1=>exact Av _ _ _ _ rfl
             case c2=>intro u hu;simp at hu;subst hu;rfl
             case c3=>rw[Hx,hlr];unfold maxLen;omega
             case c4=>rw[Hx,hlr];omega
             case c5=>simp;omega
             intro v' w2 hown2 hgrow _;obtain⟨va',vc',rfl⟩:=Ag hown2;have hown3:IntsAt w2 w.heap.size (.slice va' ((Ti.L (m++Et.row (i+2+2*j) q)).length+1) vc') (Ti.L (m++Et.row (i+2+2*j) (q+1))):=by
              have ev:((i:Int)+2+2*(j:Int)+2*(q:Int))=((i+2+2*j+2*q:Nat):Int):=by omega
              rw[ev]at hown2;rw[Lh,Qf]
              simpa[IntsAt] using hown2
             have hB2:=(hB.alloc hsz (O4 ((i:Int)+2+2*(j:Int)+2*(q:Int)))).grown hgrow (by simp;omega) (fun j hj=>(hown.lt j hj).1);clear hgrow hown hown2 hB;go_wp2
             go_roundw
             case rel=>exact⟨q+1,by omega,by go_num,hown3,hB2⟩
             case measure=>simp[intOf]<;>omega
            ·obtain rfl:q=h:=by omega
             clear HM;go_wp2
             go_roundw
             case rel=>exact⟨n,i+2+2*j+2*q,_,congrArg (Value.int .i64) (by omega),congrArg (Value.int .i64) (by omega),HR2,hown,by omega,by omega,by omega,hB⟩
             case measure=>simp[intOf]<;>omega
  ·obtain⟨k,rfl⟩:∃ j,k=j+1:=⟨k-1,by omega⟩;have kp:(0:Int)<((k+1:Nat):Int):=by omega
   have q1:=Et.at_lt D (i+1);have HA1:=Ac (fun v w h=>Aa HA v (i+1) w h);have hk1:=Aa HK;rw[Et.skip]at hk1;have HK2:=Ac hk1;clear hk1 HK;generalize Et.at D (i+1)=q at *;go_wp2_with (go_at_call 48;refine(Aa HA1 _ _ (by omega)).mono ?_;rintro e w1 ⟨rfl,rfl⟩)
   go_roundw
   case rel=>exact⟨k,i+2+2*q,congrArg (Value.int .i64) (by omega),congrArg (Value.int .i64) (by omega),HK2,by omega,by trivial⟩
   case measure=>simp[intOf]<;>omega
theorem Rs (p:ByteArray) (x:Nat) (k n o1 o2 c c1 c2:Int) (b1 b2:UInt8) (F:Bool) (w:World) (hp:p.size≤15000) (hx:x+1<p.size) (e1:(p[x].toNat:Int)=o1) (e2:(p[x+1].toNat:Int)=o2)
  (hF:∀ w,Calls Tryz.prog 49 #[.string p,.agg #[.int .i64 k,.int .i64 n],.agg #[.int .i64 o1,.int .i64 o2]] w fun e w'=>e=.returned (.bool F)∧Below w.heap.size w w')
  (hN1:∀ w,Calls Tryz.prog 34 #[.int .i64 k] w fun e w'=>e=.returned (.string ⟨#[b1]⟩)∧Below w.heap.size w w')
  (hN2:∀ w,Calls Tryz.prog 34 #[.int .i64 n] w fun e w'=>e=.returned (.string ⟨#[b2]⟩)∧Below w.heap.size w w')
  (hC:∀ w,Calls Tryz.prog 20 #[.string (p.extract 0 x++⟨#[b1]⟩++⟨#[b2]⟩++p.extract (x+2) p.size)] w fun e w'=>e=.returned (.tuple #[.int .i64 c,.int .i64 c1,.int .i64 c2])∧Below w.heap.size w w')
  (hT:F=true→(k,n)≠(o1,o2)→c≠0) :
  Calls Tryz.prog 17 #[.string p,.int .i64 (x:Int),.agg #[.int .i64 k,.int .i64 n]] w fun e w'=>e=.returned (.bool false)∧Below w.heap.size w w':=by
 have HF:=Ac hF;have HN1:=Ac hN1;have HN2:=Ac hN2;have HC:=Ac hC;have HT:=Ac hT;clear hF hN1 hN2 hC hT;have hB0:=(Below.refl w.heap.size w).alloc (Nat.le_refl _) (O7 k n);have C0:(w.alloc (O7 k n)).heap[w.heap.size]?=some (O7 k n):=Ad w (O7 k n);have hx1:(x:Int)<(p.size:Int):=by omega
 have hx2:(x:Int)+1<(p.size:Int):=by omega
 have kw:IntKind.i64.wrap ((x:Int)+1)=(x:Int)+1:=Gp _ (by omega) (by omega);have hu1:=p[x].toNat_lt;have hu2:=p[x+1].toNat_lt;have kw1:IntKind.i64.wrap o1=o1:=Gp _ (by omega) (by omega);have kw2:IntKind.i64.wrap o2=o2:=Gp _ (by omega) (by omega);have kn:((x:Int)+1).toNat=x+1:=by omega
 have k0:(0:Int)≤(x:Int)+1:=by omega
 go_enter Tryz.func17,Tryz.ntmps17
 go_upto_region 1 with fail
 go_cut [7] from 12 (fun s7 wx=>s7=.pointer (some ⟨w.heap.size+1,0,none⟩)∧wx=((w.alloc (O7 k n)).alloc (O7 o1 o2)).drew)
 case first =>
  go_wp2
  go_region_held3 (fun w'=>True) (exact trivial) (fail)
  all_goals
   go_wp2
   go_meet
   case rel=>exact⟨rfl,rfl⟩
 case rest =>
  obtain⟨rfl,rfl⟩:=hcut;have hB1:=(hB0.alloc hB0.size (O7 o1 o2)).drew;have C1:((w.alloc (O7 k n)).alloc (O7 o1 o2)).drew.heap[w.heap.size]?=some (O7 k n):=Aj w (O7 k n) (O7 o1 o2);have D1:((w.alloc (O7 k n)).alloc (O7 o1 o2)).drew.heap[w.heap.size+1]?=some (O7 o1 o2):=Ai w (O7 k n) (O7 o1 o2);clear C0 hB0;generalize ((w.alloc (O7 k n)).alloc (O7 o1 o2)).drew=w1 at *;have t0:=(Ab C1 0).trans (show _=some (.int .i64 k) from rfl);have t1:=(Ab C1 1).trans (show _=some (.int .i64 n) from rfl);have y0:=(Ab D1 0).trans (show _=some (.int .i64 o1) from rfl);have y1:=(Ab D1 1).trans (show _=some (.int .i64 o2) from rfl);go_wp2_with fail
  refine(Aa HF _).mono ?_;rintro e w2 ⟨rfl,hb2⟩;have hB2:=QB hB1 hb2;have C2:=stay hb2 C1;have D2:=stay hb2 D1;clear t0 t1 y0 y1 C1 D1 hB1 hb2;have t0:=(Ab C2 0).trans (show _=some (.int .i64 k) from rfl);have t1:=(Ab C2 1).trans (show _=some (.int .i64 n) from rfl);have y0:=(Ab D2 0).trans (show _=some (.int .i64 o1) from rfl);have y1:=(Ab D2 1).trans (show _=some (.int .i64 o2) from rfl);cases F with
  | false =>
   go_wp2;go_ret;exact⟨rfl,hB2⟩
  | true =>
   by_cases he:(k,n)=(o1,o2)
   ·simp only[Prod.mk.injEq]at he;obtain⟨rfl,rfl⟩:=he;go_wp2;go_ret;exact⟨by simp,hB2⟩
   ·have hc0:c≠0:=Aa HT rfl he;have hor:(¬ k=o1)∨(k=o1∧¬ n=o2):=by
     by_cases h:k=o1
     ·exact .inr ⟨h,fun g=>he (by rw[h,g])⟩
     ·exact .inl h
    have lB:=lt_of_block C2;have HN1':Hid (∀ w',Below w2.heap.size w2 w'→Calls Tryz.prog 34 #[.int .i64 k] w' fun e w''=>e=.returned (.string ⟨#[b1]⟩)∧Below w2.heap.size w2 w''):=fun w' h=>(Aa HN1 w').mono fun e w'' g=>⟨g.1,h.trans (g.2.mono h.size)⟩;have HN2':Hid (∀ w',Below w2.heap.size w2 w'→Calls Tryz.prog 34 #[.int .i64 n] w' fun e w''=>e=.returned (.string ⟨#[b2]⟩)∧Below w2.heap.size w2 w''):=fun w' h=>(Aa HN2 w').mono fun e w'' g=>⟨g.1,h.trans (g.2.mono h.size)⟩;have HC':Hid (∀ w',Below w2.heap.size w2 w'→Calls Tryz.prog 20 #[.string (p.extract 0 x++⟨#[b1]⟩++⟨#[b2]⟩++p.extract (x+2) p.size)] w' fun e w''=>e=.returned (.tuple #[.int .i64 c,.int .i64 c1,.int .i64 c2])∧Below w2.heap.size w2 w''):=fun w' h=>(Aa HC w').mono fun e w'' g=>⟨g.1,h.trans (g.2.mono h.size)⟩;clear HN1 HN2 HC HT HF;have z1:(⟨#[b1]⟩:ByteArray).size=1:=rfl;have z2:(⟨#[b2]⟩:ByteArray).size=1:=rfl;have z3:(p.extract 0 x).size=x:=by rw[ByteArray.size_extract];omega
    have z4:(p.extract (x+2) p.size).size=p.size-(x+2):=by rw[ByteArray.size_extract];omega
    have f1:¬ 9223372036854775807<x+1:=by omega
    have f2:¬ 9223372036854775807<x+1+1:=by omega
    have f3:¬ 9223372036854775807<x+1+1+(p.size-(x+2)):=by omega
    have f4:min x p.size=x:=by omega
    have kw3:IntKind.i64.wrap ((x:Int)+2)=(x:Int)+2:=Gp _ (by omega) (by omega);have kn3:((x:Int)+2).toNat=x+2:=by omega
    have k03:(0:Int)≤(x:Int)+2:=by omega
    have kx3:(x:Int)+2≤(p.size:Int):=by omega
    have kx1:(x:Int)≤(p.size:Int):=by omega
    have hBd:Below w2.heap.size w2 w2.drew:=(Below.refl _ _).drew;clear he e1 e2 kw1 kw2 hu1 hu2 y0 y1 hx1 hx2 kw kn k0;have y0:=(Ab D2 0).trans (show _=some (.int .i64 o1) from rfl);have y1:=(Ab D2 1).trans (show _=some (.int .i64 o2) from rfl);rcases hor with hko | ⟨hko,hno⟩
    case' inr=>subst hko
    all_goals
     go_upto_region 5 with fail
     go_cut [9,10,11] from 33 (fun s9 _ _ wx=>s9=.int .i64 c∧Below w2.heap.size w2 wx)
     case first =>
      go_wp2
      go_region_held3 (fun w'=>w'.cell? ⟨w.heap.size,0,none⟩=some (.int .i64 k)∧w'.cell? ⟨w.heap.size,1,none⟩=some (.int .i64 n))
       (first | exact⟨t0,t1⟩ | exact⟨QC hb7 lB t0,QC hb7 lB t1⟩)
       (first | (go_at_call 34;refine(Aa HN1' _ (by assumption)).mono ?_;rintro e w7 ⟨rfl,hb7⟩) | (go_at_call 34;refine(Aa HN2' _ (by assumption)).mono ?_;rintro e w7 ⟨rfl,hb7⟩) | (go_at_call 20;refine(Aa HC' _ (by assumption)).mono ?_;rintro e w7 ⟨rfl,hb7⟩))
      all_goals
       go_wp2
       go_meet
       case rel=>exact⟨rfl,hb7⟩
     case rest =>
      obtain⟨rfl,hb7⟩:=hcut;have hB3:=QB hB2 hb7;have hc1:(c==0)=false:=by simpa using hc0
      go_wp2;go_ret;exact⟨by simp[hc0],hB3⟩
theorem Tl (s:ByteArray) (k n k' n':Int) (w:World) (hs:s.size≤maxLen) :
  Calls Tryz.prog 49 #[.string s,.agg #[.int .i64 k,.int .i64 n],.agg #[.int .i64 k',.int .i64 n']] w fun e w' =>
   e=.returned (.bool (Tr.fitsR (Rd.read s.data.toList) (k,n) (k',n')))∧Below w.heap.size w w':=by
 have hrt:=fun w=>Wz s k n k' n' w hs;have HRT:=Ac hrt;clear hrt;have himp:Tr.fitsR (Rd.read s.data.toList) (k,n) (k',n')=true→Tr.rtErr (Rd.read s.data.toList) (k,n) (k',n')=0:=by
  unfold Tr.fitsR
  split
  ·intro _;assumption
  ·simp
 generalize Tr.rtErr (Rd.read s.data.toList) (k,n) (k',n')=r at *;generalize Tr.fitsR (Rd.read s.data.toList) (k,n) (k',n')=f at *;cases f with
 | true =>
  have h0:=himp rfl;clear himp;subst h0;go_enter Tryz.func49,Tryz.ntmps49;go_wp2_with fail
  refine(Aa HRT _).mono ?_;rintro e w1 ⟨rfl,hb1⟩;go_wp2;go_ret;exact⟨rfl,(Ah w _ _).trans (hb1.mono (by simp;omega))⟩
 | false =>
  clear himp;go_enter Tryz.func49,Tryz.ntmps49;go_wp2_with fail
  refine(Aa HRT _).mono ?_;rintro e w1 ⟨rfl,hb1⟩;go_wp2;go_ret;exact⟨rfl,(Ah w _ _).trans (hb1.mono (by simp;omega))⟩
theorem Rt {k:Int} (h0:0≤k) (h1:k≤255):Zy k=k.toNat.toUInt8:=by
 unfold Zy;rw[show k % 256=k by omega]
theorem Ox (p:ByteArray) (x:Nat) (k n:Int) (hx:x+1<p.size) (hk0:0≤k) (hk1:k≤255) (hn0:0≤n) (hn1:n≤255) :
  (p.extract 0 x++⟨#[k.toNat.toUInt8]⟩++⟨#[n.toNat.toUInt8]⟩++p.extract (x+2) p.size).data.toList=p.data.toList.take x++(Aav (k,n)++p.data.toList.drop (x+2)):=by
 have hl:p.data.toList.length=p.size:=by simp
 unfold Aav;rw[Rt hk0 hk1,Rt hn0 hn1];simp only[ByteArray.data_append,ByteArray.data_extract,Array.toList_append,Array.toList_extract,List.extract_eq_take_drop,List.append_assoc]
 simp
 exact List.take_of_length_le (by rw[List.length_drop];omega)
theorem Ra (p:ByteArray) (x:Nat) (k n:Int) (w:World) (hp:p.size≤15000) (hx:x+1<p.size) (hk0:0≤k) (hk1:k≤255) (hn0:0≤n) (hn1:n≤255)
  (hT:Tr.fitsR (Rd.read p.data.toList) (k,n) ((p[x].toNat:Int),(p[x+1].toNat:Int))=true→(k,n)≠((p[x].toNat:Int),(p[x+1].toNat:Int))→(Adf (p.data.toList.take x++(Aav (k,n)++p.data.toList.drop (x+2)))).1≠0) :
  Calls Tryz.prog 17 #[.string p,.int .i64 (x:Int),.agg #[.int .i64 k,.int .i64 n]] w fun e w'=>e=.returned (.bool false)∧Below w.heap.size w w':=by
 have hl:=Ox p x k n hx hk0 hk1 hn0 hn1;have hN1:∀ w,Calls Tryz.prog 34 #[.int .i64 k] w fun e w'=>e=.returned (.string ⟨#[k.toNat.toUInt8]⟩)∧Below w.heap.size w w':=fun w=>Nu k w hk0 hk1;have hN2:∀ w,Calls Tryz.prog 34 #[.int .i64 n] w fun e w'=>e=.returned (.string ⟨#[n.toNat.toUInt8]⟩)∧Below w.heap.size w w':=fun w=>Nu n w hn0 hn1;have raw:=fun o1 o2 c c1 c2 F=>Rs p x k n o1 o2 c c1 c2 k.toNat.toUInt8 n.toNat.toUInt8 F w hp hx;have hz:(p.extract 0 x++⟨#[k.toNat.toUInt8]⟩++⟨#[n.toNat.toUInt8]⟩++p.extract (x+2) p.size).size≤maxLen:=by
  have e:∀ b:UInt8,(⟨#[b]⟩:ByteArray).size=1:=fun _=>rfl;simp only[ByteArray.size_append,ByteArray.size_extract,e];unfold maxLen;omega
 generalize (p.extract 0 x++⟨#[k.toNat.toUInt8]⟩++⟨#[n.toNat.toUInt8]⟩++p.extract (x+2) p.size:ByteArray)=q at hl hz raw;have hC:=fun w=>Mf q w hz;rw[hl]at hC;generalize Adf (p.data.toList.take x++(Aav (k,n)++p.data.toList.drop (x+2)))=C at *;have hF:=fun w=>Tl p k n (p[x].toNat:Int) (p[x+1].toNat:Int) w (by unfold maxLen;omega);generalize Tr.fitsR (Rd.read p.data.toList) (k,n) ((p[x].toNat:Int),(p[x+1].toNat:Int))=F at *;exact raw _ _ _ _ _ F rfl rfl hF hN1 hN2 hC hT
theorem Ue {s P:List UInt8} (hp:Abs s=(P,0,0)):4≤P.length∧P.length≤15000:=by
 unfold Abs at hp;by_cases h0:(Rf.formed s).1≠0
 ·rw[if_pos h0]at hp;simp only[Prod.mk.injEq]at hp;exact absurd hp.2.1 h0
 rw[if_neg h0]at hp;have h0':(Rf.formed s).1=0:=by simpa using h0
 cases hr:Aar (Aax (Rd.read s).1.classes (Rd.read s).1.methods) (Rd.read s).1.methods with
 | none=>rw[hr]at hp;simp at hp
 | some r =>
  rw[hr]at hp;simp only[Prod.mk.injEq,and_true]at hp;have al:=Fx h0' hr;rw[hp]at al;refine⟨?_,(Kh _ al.p0).2⟩;rw[← hp];unfold Aau Abv
  simp
  omega
theorem W5 (s:List UInt8):(Abs s).2.1≠0→(Abs s).1=[]:=by
 unfold Abs;intro h;by_cases h0:(Rf.formed s).1≠0
 ·rw[if_pos h0]
 ·rw[if_neg h0]at h ⊢
  split
  ·rfl
  ·next hr=>rw[hr]at h;simp at h
theorem Ym (s:List UInt8):(Abs s).2.1=0→Abs s=((Abs s).1,0,0):=by
 unfold Abs;intro h;by_cases h0:(Rf.formed s).1≠0
 ·rw[if_pos h0]at h;exact absurd h h0
 ·rw[if_neg h0]at h ⊢
  split
  ·next hr=>rw[hr]at h;simp at h
  ·rfl
theorem Nj {k:Int} (h0:0≤k) (h1:k≤255):((Zy k).toNat:Int)=k:=by
 rw[Rt h0 h1];show ((k.toNat % 256:Nat):Int)=k;omega
theorem Um (s:ByteArray) (c d:Int) (w:World) (hs:s.size≤maxLen) (hc0:-9223372036854775808≤c) (hc1:c≤9223372036854775807) (hd0:-9223372036854775808≤d) (hd1:d≤9223372036854775807) :
  Calls Tryz.prog 3 #[.string s,.int .i64 c,.int .i64 d] w fun e w'=>e=.returned (.bool true)∧Below w.heap.size w w':=by
 have hP:=fun w=>Jg s w hs;have HF:=Ac Qv;have hB0:=Below.refl w.heap.size w;by_cases h0:(Abs s.data.toList).2.1=0
 ·have hpr:=Ym s.data.toList h0;rw[hpr]at hP;simp only at hP;generalize (Abs s.data.toList).1=PL at *;obtain⟨l4,l5⟩:=Ue hpr;have ht:=fun x hx=>Pd (x:=x) hpr hx;obtain⟨P,hPe⟩:∃ P:ByteArray,P=⟨PL.toArray⟩:=⟨_,rfl⟩;have hPd:P.data.toList=PL:=by rw[hPe]
  have hz:P.size=PL.length:=by rw[hPe];simp[ByteArray.size]
  rw[← hPe]at hP;have HP:=Ac hP;clear hP hPe h0 hpr;have HE:=Ac (fun w=>M9 P w (by omega));rw[hPd]at HE;have HL:Hid (∀ x∈Et.ents PL,x+1<P.size∧∀ (k n:Int) (w:World),0≤k→k≤255→0≤n→n≤255→Calls Tryz.prog 17 #[.string P,.int .i64 (x:Int),.agg #[.int .i64 k,.int .i64 n]] w fun e w'=>e=.returned (.bool false)∧Below w.heap.size w w'):=by
   intro x hx;obtain⟨o,o1,o2,o3,oB,core⟩:=ht x hx;have hx':x+1<P.size:=by omega
   refine⟨hx',fun k n w hk0 hk1 hn0 hn1=>Ra P x k n w (by omega) hx' hk0 hk1 hn0 hn1 ?_⟩;have g1:P[x]=Zy o.1:=by
    have h:x<P.data.toList.length:=by rw[hPd];omega
    have:P.data.toList[x]?=some (Zy o.1):=by rw[hPd];exact o2
    rw[List.getElem?_eq_getElem h]at this;simp at this;exact this
   have g2:P[x+1]=Zy o.2:=by
    have h:x+1<P.data.toList.length:=by rw[hPd];omega
    have:P.data.toList[x+1]?=some (Zy o.2):=by rw[hPd];exact o3
    rw[List.getElem?_eq_getElem h]at this;simp at this;exact this
   rw[g1,g2,Nj oB.1.1 oB.1.2,Nj oB.2.1 oB.2.2,hPd];intro hf hne;refine core (k,n) ⟨⟨hk0,hk1⟩,⟨hn0,hn1⟩⟩ ?_ hne;unfold Tr.fitsR at hf
   split at hf
   ·exact hf
   ·simp at hf
  have K1:=Ac (fun n w h0 h1=>Xf c n w hc0 hc1 h0 h1);have K2:=Ac (fun w=>Xf d 120 w hd0 hd1 (by omega) (by omega));have p2:=Td d 120 (by omega);have HK:=Ac (fun n h=>Td c n h);have l4':4≤P.size:=by omega
  have l5':P.size≤15000:=by omega
  clear ht hc0 hc1 hd0 hd1 hPd hz l4 l5;generalize Kr.pk d 120=dd at *;generalize Et.ents PL=L at *;go_enter Tryz.func3,Tryz.ntmps3;go_wp2_with fail
  refine(Aa HF _).mono ?_;rintro e w1 ⟨rfl,hb1⟩;go_wp2_with fail
  refine(Aa HP _).mono ?_;rintro e w2 ⟨rfl,hb2⟩;have hB2:=QB hb1 hb2;go_wp2_with fail
  refine(Aa HE _).mono ?_;rintro e w3 ⟨la,lc,rfl,hown,hL,hb3⟩;have hB3:=QB hB2 hb3;clear HF HP HE hb1 hb2 hb3 hB2;have z4:¬ (P.size:Int)<4:=by omega
  have z5:(4:Int)≤(P.size:Int):=by omega
  by_cases he:L=[]
  ·subst he;have e0:(Ti.L []).length=0:=rfl;go_wp2;go_ret;exact⟨by simp,hB3⟩
  ·have hpos:0<L.length:=by cases L with | nil=>exact absurd rfl he | cons=>simp
   have hll:=Hx L;have pk:=Aa HK ((Ti.L L).length:Int) (by omega);have HK1:=Ac (fun w=>Aa K1 ((Ti.L L).length:Int) w (by omega) (by omega));clear K1 HK;generalize Kr.pk c ((Ti.L L).length:Int)=q at *;obtain⟨j,rfl⟩:=Int.eq_ofNat_of_zero_le pk.1;have hj:j<L.length:=by omega
   have hlp:0<(Ti.L L).length:=by omega
   have hx:=Aa HL L[j] (List.getElem_mem hj);obtain⟨g,hg,hglt,_,hcell⟩:=Ao hown (by omega);have hc:w3.cell? ⟨g,j,none⟩=some (.int .i64 ((L[j]:Nat):Int)):=by
    rw[hcell j (by simp[Ti.L];exact hj)];simp[Ti.L,hj]
   have jb:(j:Int)<((Ti.L L).length:Int):=pk.2;have HX:=Ac hx.2;have x1:=hx.1;generalize L[j]=x at *;have xb:¬ (P.size:Int)≤(x:Int)+1:=by omega
   have ne0:(((Ti.L L).length:Int)==0)=false:=by simp only[beq_eq_false_iff_ne,ne_eq];omega
   subst hg;clear hll hL hpos hj hlp;clear hcell hx HL hown;go_wp2_with fail
   refine(Aa HK1 _).mono ?_;rintro e w4 ⟨rfl,rfl⟩;go_wp2_with fail
   refine(Aa HX 1 0 _ (by omega) (by omega) (by omega) (by omega)).mono ?_;rintro e w5 ⟨rfl,hb5⟩;have hB5:=QB hB3 hb5;clear hc hb5 hB3 hglt;go_wp2_with fail
   refine(Aa HX 2 0 _ (by omega) (by omega) (by omega) (by omega)).mono ?_;rintro e w6 ⟨rfl,hb6⟩;have hB6:=QB hB5 hb6;clear hb6 hB5;go_wp2_with fail
   refine(Aa K2 _).mono ?_;rintro e w7 ⟨rfl,rfl⟩;go_wp2_with fail
   refine(Aa HX 4 dd _ (by omega) (by omega) (by omega) (by omega)).mono ?_;rintro e w8 ⟨rfl,hb8⟩;have hB8:=QB hB6 hb8;clear hb8 hB6 K2 HK1;go_wp2
   go_loopw [16] (fun v wr=>∃ k:Nat,k≤13∧v=.int .i64 (k:Int)∧Below w.heap.size w wr)
    (fun v _=>13-(intOf v).toNat)
   case atStart=>exact⟨0,by omega,rfl,hB8⟩
   case round =>
    clear hB8;obtain⟨k,hk,rfl,hB⟩:=hrel;by_cases hk13:k<13
    ·have kb:(k:Int)<13:=by omega
     go_wp2_with fail
     refine(Aa HX 3 (k:Int) _ (by omega) (by omega) (by omega) (by omega)).mono ?_;rintro e w9 ⟨rfl,hb9⟩;have hB9:=QB hB hb9;clear hb9 hB;go_wp2
     go_roundw
     case rel=>exact⟨k+1,by omega,by go_num,hB9⟩
     case measure=>simp[intOf]<;>omega
    ·have kb:¬ (k:Int)<13:=by omega
     go_wp2;go_ret;exact⟨rfl,hB⟩
 ·have hpe:=W5 s.data.toList h0;rw[hpe]at hP;generalize (Abs s.data.toList).2.1=e1 at *;generalize (Abs s.data.toList).2.2=e2 at *;have HP:=Ac hP;have he:(e1 != 0)=true:=by simpa using h0
  clear hP h0 hpe;go_enter Tryz.func3,Tryz.ntmps3;go_wp2_with fail
  refine(Aa HF _).mono ?_;rintro e w1 ⟨rfl,hb1⟩;go_wp2_with fail
  refine(Aa HP _).mono ?_;rintro e w2 ⟨rfl,hb2⟩;have hB2:=QB hb1 hb2;go_wp2;go_ret;exact⟨rfl,hB2⟩
end Go.Proofs.YtpcgnjolfahacaaGreat
