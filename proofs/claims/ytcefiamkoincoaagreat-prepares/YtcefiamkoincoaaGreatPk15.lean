/- a part of the proof -/
import Derived.Test.YtcefiamkoincoaaGreatPk14
set_option maxRecDepth 100000
set_option maxHeartbeats 40000000
set_option linter.unusedVariables false
set_option linter.unusedSimpArgs false
namespace Go.Proofs.YtcefiamkoincoaaGreat
open Go.RowKit
def Aa6 (T:List Int) (F:List Rf.Fld) (ms:List Rd.Mth) (want:Int→List (Int × Int)) (arg:Int→Int) (res:Int × Int) (p op n:Int) (x:Zt):Option Zt :=
 if op=2 then (if (x.locals.getD n.toNat (0,0)).1=0 then none else some ⟨x.locals,x.stack++[x.locals.getD n.toNat (0,0)]⟩)
 else if op=3 then (if x.stack.length<1 then none else some ⟨x.locals.set n.toNat (x.stack.getD (x.stack.length-1) (0,0)),x.stack.take (x.stack.length-1)⟩)
 else if op=4 then (if x.stack.length<1 then none else some ⟨x.locals,x.stack.take (x.stack.length-1)⟩)
 else if op=5 then (if x.stack.length<1 then none else some ⟨x.locals,x.stack++x.stack.drop (x.stack.length-1)⟩)
 else if op=6 then (if x.stack.length<2 then none else some ⟨x.locals,x.stack.take (x.stack.length-2)++[x.stack.getD (x.stack.length-1) (0,0),x.stack.getD (x.stack.length-2) (0,0)]⟩)
 else if op=15 then some ⟨Zy (4,p) (0,0) x.locals,Zy (4,p) (0,0) x.stack++[(4,p)]⟩
 else if op=16 then Ado T (want n) arg n x
 else if Abu T x.stack (Aag F ms res op n)=false then none
 else some ⟨x.locals,x.stack.take (x.stack.length-(Aag F ms res op n).length)++Aal F ms op n⟩
theorem Su (l:List (Int × Int)) (q:Nat) (t1 t2:Int):Am (l.set q (t1,t2))=((Am l).set (q*2) (.int .i64 t1)).set (q*2+1) (.int .i64 t2):=by
 induction l generalizing q with
 | nil=>simp[Am]
 | cons x r ih =>
  have e:∀ (y:Int × Int) (s:List (Int × Int)),Am (y::s)=.int .i64 y.1 :: .int .i64 y.2::Am s:=fun y s=>by simp[Am]
  cases q with
  | zero=>rw[List.set_cons_zero,e,e];rfl
  | succ j=>rw[List.set_cons_succ,e,e,ih,show (j+1)*2=j*2+1+1 by omega];rfl
theorem Fy {w:World}{b:Nat}{a:Option Addr}{n c:Nat}{l:List (Int × Int)} (h:TysAt w b (.slice a n c) l) {q:Nat} (hq:q<l.length) (t1 t2:Int) :
  ∃ g,a=some ⟨g,0,none⟩∧g<w.heap.size∧b≤g∧w.cell? ⟨g,q*2,none⟩=some (.int .i64 l[q].1)∧w.cell? ⟨g,q*2+1,none⟩=some (.int .i64 l[q].2)∧w.frozen? ⟨g,q*2,none⟩=false∧w.frozen? ⟨g,q*2+1,none⟩=false ∧
   TysAt ((w.setCell ⟨g,q*2,none⟩ (.int .i64 t1)).setCell ⟨g,q*2+1,none⟩ (.int .i64 t2)) b (.slice a n c) (l.set q (t1,t2)):=by
 obtain⟨g',o',ha',_,hat⟩:=(TyR.of_tys h).at (by omega);obtain⟨hl,⟨hv,hn⟩|⟨g,cap,cur,hv,hb,hg,hlen,hm,hsz,htk⟩⟩:=h
 ·omega
 ·simp only[Value.slice.injEq]at hv;obtain⟨rfl,rfl,rfl⟩:=hv;simp only[Option.some.injEq,Addr.mk.injEq]at ha';obtain⟨rfl,rfl,-⟩:=ha';obtain⟨c0,c1⟩:=hat q hq;simp only[Nat.zero_add]at c0 c1;refine⟨g,rfl,lt_of_block hg,hb,c0,c1,Ae hg _,Ae hg _,?_⟩;refine⟨by rw[Fu],.inr ⟨g,c,_,by rw[List.length_set],hb,Ai (Ai hg _) _,by rw[List.length_set];exact hlen,hm,by simpa using hsz,?_⟩⟩;rw[List.length_set,Su,← htk];simp only[Array.toList_setIfInBounds];rw[List.take_set,List.take_set]
theorem TyR.addr {w:World}{a:Option Addr}{n c:Nat}{l:List (Int × Int)} (h:TyR w (.slice a n c) l):(a=none∧c=0)∨∃ g o,a=some ⟨g,o,none⟩:=by
 rcases h with ⟨h1,-⟩|⟨g,o,c',cur,hv,-⟩
 ·simp only[Value.slice.injEq]at h1;exact .inl ⟨h1.1,h1.2.2⟩
 ·simp only[Value.slice.injEq]at hv;exact .inr ⟨g,o,hv.1⟩
theorem TyR.set_frame {w:World}{v:Value}{l:List (Int × Int)}{z:Nat}{a1 a2:Option Addr}{n1 c1 n2 c2:Nat}{ty:TypeId} (h:TyR w v l) (hz:w.heap[z]?=some (.cells #[.slice a1 n1 c1,.slice a2 n2 c2] ty (0,0))) (s t:Value):TyR ((w.setCell ⟨z,0,none⟩ s).setCell ⟨z,1,none⟩ t) v l:=by
 rcases h with h|⟨g,o,c,cur,hv,hg,h1,h2,h3⟩
 ·exact .inl h
 ·obtain⟨cur',hg'⟩:∃ cur',((w.setCell ⟨z,0,none⟩ s).setCell ⟨z,1,none⟩ t).heap[g]?=some (.cells cur' 39 (0,0)):=by
   by_cases e:g=z
   ·subst e;have e2:=hg.symm.trans hz;simp only[Option.some.injEq,Obj.cells.injEq]at e2;obtain⟨_,rfl,_⟩:=e2;exact⟨_,Ai (Ai hz s) t⟩
   ·exact⟨cur,((Below.heap_setCell _ _ _ _ (by simpa using e)).trans (Below.heap_setCell _ _ _ _ (by simpa using e))).trans hg⟩
  refine .inr ⟨g,o,c,cur',hv,hg',h1,h2,fun j x hx=>?_⟩;have hne:g≠z:=by
   intro e;subst e;have h4:=h3 j x hx;rw[Ab hz]at h4;have hint:∃ k,x=Value.int .i64 k:=by
    have:=List.mem_of_getElem? hx;simp only[Am,List.mem_flatMap,List.mem_cons,List.not_mem_nil,or_false]at this;obtain⟨y,_,rfl | rfl⟩:=this<;>exact⟨_,rfl⟩
   obtain⟨k,rfl⟩:=hint;generalize o+j=i at h4
   match i,h4 with
   | 0,h4=>simp at h4
   | 1,h4=>simp at h4
   | i+2,h4=>simp at h4
  rw[World.cell?_setCell_other _ _ _ _ (by intro e;exact hne (congrArg Addr.block e).symm),World.cell?_setCell_other _ _ _ _ (by intro e;exact hne (congrArg Addr.block e).symm)];exact h3 j x hx
theorem T6 (F:List Rf.Fld) (ms:List Rd.Mth) (hp:∀ m∈ms,m.params.length≤1000) (res:Int × Int) (op n:Int):(Aag F ms res op n).length≤1001:=by
 have hg:(ms.getD n.toNat ⟨0,0,[],(0,0),0,0,[],[],[]⟩).params.length≤1000:=by
  rw[List.getD_eq_getElem?_getD];by_cases h:n.toNat<ms.length
  ·rw[List.getElem?_eq_getElem h];exact hp _ (List.getElem_mem h)
  ·rw[List.getElem?_eq_none (by omega)]
   simp
 have hr:(Aau res).length≤1:=by unfold Aau;split<;>simp
 unfold Aag
 split
 ·simp
 ·split
  ·simp
  ·split
   ·simp
   ·split
    ·simp
    ·split
     ·simp
     ·split
      ·omega
      ·split
       ·simp only[List.length_cons];omega
       ·split
        ·omega
        ·split<;>simp
theorem Ka (F:List Rf.Fld) (ms:List Rd.Mth) (op n:Int):(Aal F ms op n).length≤1:=by
 have hr:∀ res,(Aau res).length≤1:=fun res=>by unfold Aau;split<;>simp
 unfold Aal
 split
 ·simp
 ·split
  ·simp
  ·split
   ·simp
   ·split
    ·simp
    ·split
     ·exact hr _
     ·simp
theorem Rv (f:RFl) (m:RMV) (p:Nat) (v:FrV) (x:Zt) (w:World) (hf:f.ok w) (hp:p<m.code.size) (hs:m.code.size≤100000) (hv:v.is x w) (hxl:x.locals.length≤1000) (hxs:x.stack.length≤1000)
  (hraw:∀ t∈x.stack,t.1=4→0≤t.2∧t.2<(m.code.size:Int)) (hpl:∀ x∈f.ms,x.1.m.params.length≤1000)
  (hN1:(An m.code).getD p 0=17∨(An m.code).getD p 0=18→0≤Rf.at' m.code.data.toList ((p:Int)+1)∧Rf.at' m.code.data.toList ((p:Int)+1)<(f.fields.length:Int))
  (hN2:(An m.code).getD p 0=20∨(An m.code).getD p 0=21→0≤Rf.at' m.code.data.toList ((p:Int)+1)∧Rf.at' m.code.data.toList ((p:Int)+1)<(f.ms.length:Int))
  (hN3:(An m.code).getD p 0=2∨(An m.code).getD p 0=3→0≤Rf.at' m.code.data.toList ((p:Int)+1)∧Rf.at' m.code.data.toList ((p:Int)+1)<(x.locals.length:Int))
  (hN4:(An m.code).getD p 0=16→0≤Rf.at' m.code.data.toList ((p:Int)+1)∧Rf.at' m.code.data.toList ((p:Int)+1)<(f.l.length:Int)) :
  Calls Tryz.prog 179 #[f.val,m.val,.int .i64 (p:Int),v.val] w fun e w' =>
   ∃ u:FrV,e=.returned (.tuple #[u.val,.bool (Aa6 f.T f.fields (f.ms.map fun x=>x.1.m) (fun c=>Rf.all f.T (f.l.map Prod.fst) c.toNat) (fun q=>Rf.at' m.code.data.toList (q+1)) (m.r1,m.r2) (p:Int) ((An m.code).getD p 0) (Rf.at' m.code.data.toList ((p:Int)+1)) x).isSome]) ∧
    (∀ y,Aa6 f.T f.fields (f.ms.map fun x=>x.1.m) (fun c=>Rf.all f.T (f.l.map Prod.fst) c.toNat) (fun q=>Rf.at' m.code.data.toList (q+1)) (m.r1,m.r2) (p:Int) ((An m.code).getD p 0) (Rf.at' m.code.data.toList ((p:Int)+1)) x=some y→u.is y w')∧Below w.heap.size w w':=by
 have hTk:=fun w' (h:Below w.heap.size w w')=>Sd f m p w' (hf.below h) hp hs hpl hN1 hN2;have hLv:=fun w' (h:Below w.heap.size w w')=>Px f m p w' (hf.below h) hp hs hpl hN1 hN2;have hSet:=fun (c:Nat) w' (h:Below w.heap.size w w') hc=>V5 f m c v x w' (hf.below h) hc hs (hv.below h) hxl hxs hraw;have hTp:=fun want a2 n2 c2 w' (h:Below w.heap.size w w') h2 hw=>Np f.v f.T x.stack want v.sa a2 v.sn v.sc n2 c2 w' (RFl.fitsAs (hf.below h)) (hv.st.below h) h2 (by omega) hw;rw[Dx _ _ hp]at hN3 hN4 hTk hLv ⊢;have hTKL:(Aag f.fields (f.ms.map fun x=>x.1.m) (m.r1,m.r2) (m.code[p].toNat:Int) (Rf.at' m.code.data.toList ((p:Int)+1))).length≤1001:=T6 _ _ (by intro y hy;obtain⟨z,hz,rfl⟩:=List.mem_map.1 hy;exact hpl z hz) _ _ _;have hLVL:(Aal f.fields (f.ms.map fun x=>x.1.m) (m.code[p].toNat:Int) (Rf.at' m.code.data.toList ((p:Int)+1))).length≤1:=Ka _ _ _ _;have hAr:=fun w=>Er m p w hp hs;have e1:=hv.lo.cap.1;have e2:=hv.st.cap.1;have hcs:=hv.st.cap.2.1;have hlo:=hv.lo;have hst:=hv.st;generalize hres:Aa6 f.T f.fields (f.ms.map fun x=>x.1.m) (fun c=>Rf.all f.T (f.l.map Prod.fst) c.toNat) (fun q=>Rf.at' m.code.data.toList (q+1)) (m.r1,m.r2) (p:Int) (m.code[p].toNat:Int) (Rf.at' m.code.data.toList ((p:Int)+1)) x=R;generalize Rf.at' m.code.data.toList ((p:Int)+1)=n at *;have hp':(p:Int)<(m.code.size:Int):=by omega
 have hwb:∀ c:UInt8,IntKind.i64.wrap (c.toNat:Int)=(c.toNat:Int):=fun c=>Bd _ (by omega) (by have:=c.toNat_lt;omega);clear hf hv hN1 hN2 hpl hraw;obtain⟨fa1,fc1,fa2,fc2,bb,l,ms⟩:=f;obtain⟨cl,nm,pa,pl,pc,r1,r2,lo,st,code,ha,hl,hc,ma,ml,mc,mAt,fin⟩:=m;obtain⟨la,ln,lc,sa,sn,sc⟩:=v;simp only[RMV.val,RFl.val,RFl.v,RFv.val,FrV.val]at hTk hLv hSet hTp hTKL hLVL hAr e1 e2 hcs hlo hst hN3 hN4 hres hp hp' hs ⊢;subst e1 e2;have HTKL:=Ac hTKL;have HLVL:=Ac hLVL;have HTK:=Ac hTk;have HLV:=Ac hLv;have HSET:=Ac hSet;have HTP:=Ac hTp;have HAr:=Ac hAr;have HN3:=Ac hN3;have HN4:=Ac hN4;clear hTk hLv hSet hTp hAr hN3 hN4 hTKL hLVL;have hB0:=Bp w (O11 fa1 l.length fc1 fa2 ms.length fc2) (O14 cl nm pa pl pc r1 r2 lo st code ha hl hc ma ml mc mAt fin) (O25 la x.locals.length lc sa x.stack.length sc) (O25 none 0 0 none 0 0);obtain⟨F0,M0,X0,Z0⟩:=Bf w (O11 fa1 l.length fc1 fa2 ms.length fc2) (O14 cl nm pa pl pc r1 r2 lo st code ha hl hc ma ml mc mAt fin) (O25 la x.locals.length lc sa x.stack.length sc) (O25 none 0 0 none 0 0);by_cases hop:(code[p].toNat:Int)=2
 ·have hq:=Aa HN3 (by rw[hop];simp);obtain⟨q,rfl⟩:=Int.eq_ofNat_of_zero_le hq.1;have hql:q<x.locals.length:=by omega
  have hqi:(q:Int)<(x.locals.length:Int):=by omega
  obtain⟨gl,ol,rfl,hgl0,hat⟩:=hlo.at (by omega);obtain⟨s0,s1⟩:=hat q hql;have hgd:x.locals.getD q (0,0)=x.locals[q]:=by simp[List.getD_eq_getElem?_getD,hql]
  have hR2:R=(if (x.locals[q]).1=0 then none else some ⟨x.locals,x.stack++[x.locals[q]]⟩):=by rw[← hres];unfold Aa6;rw[hop];simp[-List.getD_eq_getElem?_getD,hgd]
  generalize x.locals[q]=tt at *;obtain⟨t1,t2⟩:=tt;simp only at s0 s1 hR2;have S0:Hid (∀ w',Below w.heap.size w w'→w'.cell? ⟨gl,ol+q*2,none⟩=some (.int .i64 t1)∧w'.cell? ⟨gl,ol+q*2+1,none⟩=some (.int .i64 t2)∧gl<w'.heap.size):=fun w' h=>⟨(h.cell hgl0).trans s0,(h.cell hgl0).trans s1,Nat.lt_of_lt_of_le hgl0 h.size⟩;clear s0 s1 hat hgd hgl0 hres;by_cases ht:t1=0
  ·rw[if_pos ht]at hR2;have HE:=Ac hR2;have ht':(t1 != 0)=false:=by simpa using ht
   clear hR2 ht;go_enter Tryz.func179,Tryz.ntmps179;go_wp2_with fail
   refine(Aa HAr _).mono ?_;rintro e w1 ⟨rfl,hb1⟩;have hB1:=QB hB0 hb1;have hs1:=hB1.size;have F1:=stay hb1 F0;have M1:=stay hb1 M0;have X1:=stay hb1 X0;have Z1:=stay hb1 Z0;obtain⟨f0,f1⟩:=cl2 F1;obtain⟨x0,x1⟩:=cl2 X1;obtain⟨z0,z1⟩:=cl2 Z1;obtain⟨q0,q1⟩:=fr2 Z1;have lF:=lt_of_block F1;have lM:=lt_of_block M1;have lX:=lt_of_block X1;have lZ:=lt_of_block Z1;obtain⟨m0,m1,m2,m3,m4,m5,m6,m7,m8,m9,m10,m11⟩:=Ap M1;simp at f0 f1 x0 x1 z0 z1 m0 m1 m2 m3 m4 m5 m6 m7 m8 m9 m10 m11;clear hb1 F0 M0 X0 Z0 hB0;have tA:=Ad w1 (O7 t1 t2);have ZA0:=Aj Z1 (O7 t1 t2);have XA0:=Aj X1 (O7 t1 t2);have x0a:(w1.alloc (O7 t1 t2)).cell? ⟨w.heap.size+1+1,0,none⟩=some (.slice (some ⟨gl,ol,none⟩) x.locals.length lc):=(Ab XA0 0).trans rfl;have x1a:(w1.alloc (O7 t1 t2)).cell? ⟨w.heap.size+1+1,1,none⟩=some (.slice sa x.stack.length sc):=(Ab XA0 1).trans rfl;have lXa:w.heap.size+1+1<(w1.alloc (O7 t1 t2)).drew.heap.size:=lt_of_block XA0;have t0a:(w1.alloc (O7 t1 t2)).cell? ⟨w1.heap.size,0,none⟩=some (.int .i64 t1):=(Ab tA 0).trans rfl;have t1a:(w1.alloc (O7 t1 t2)).cell? ⟨w1.heap.size,1,none⟩=some (.int .i64 t2):=(Ab tA 1).trans rfl;have lTa:w1.heap.size<(w1.alloc (O7 t1 t2)).drew.heap.size:=lt_of_block tA;obtain⟨s0,s1,hgl⟩:=Aa S0 _ hB1;have hBA:Below w.heap.size w ((w1.alloc (O7 t1 t2)).alloc (O7 t1 t2)).drew:=((hB1.alloc hs1 _).alloc (by simp;omega) _).drew;have ZA:((w1.alloc (O7 t1 t2)).alloc (O7 t1 t2)).drew.heap[w.heap.size+1+1+1]?=some (O25 none 0 0 none 0 0):=Aj ZA0 (O7 t1 t2);have hn1:TyR ((w1.alloc (O7 t1 t2)).alloc (O7 t1 t2)).drew (.slice (some ⟨(w1.alloc (O7 t1 t2)).heap.size,0,none⟩) 1 1) [(t1,t2)]:=(TyR.new1 (w1.alloc (O7 t1 t2)) t1 t2).below (Below.refl _ _).drew;have hand:Calls Tryz.prog 210 #[.slice sa x.stack.length sc,.slice (some ⟨w1.heap.size+1,0,none⟩) 1 1] ((w1.alloc (O7 t1 t2)).alloc (O7 t1 t2)).drew fun e w' =>
     ∃ a c,e=.returned (.slice a (x.stack.length+1) c)∧TysAt w' ((w1.alloc (O7 t1 t2)).alloc (O7 t1 t2)).drew.heap.size (.slice a (x.stack.length+1) c) (x.stack++[(t1,t2)])∧Below ((w1.alloc (O7 t1 t2)).alloc (O7 t1 t2)).drew.heap.size ((w1.alloc (O7 t1 t2)).alloc (O7 t1 t2)).drew w':=by
    have h:=Dt (x.stack) ([(t1,t2)]) sa (some ⟨w1.heap.size+1,0,none⟩) x.stack.length sc 1 1 ((w1.alloc (O7 t1 t2)).alloc (O7 t1 t2)).drew (hst.below hBA) (by simpa using hn1) (by simp;omega)
    simpa using h
   have HAND:=Ac hand;clear hand;clear hn1;go_wp2
   go_region_held3 (fun w'=>w'.cell? ⟨w.heap.size+1+1,0,none⟩=some (.slice (some ⟨gl,ol,none⟩) x.locals.length lc)∧w'.cell? ⟨w.heap.size+1+1,1,none⟩=some (.slice sa x.stack.length sc)∧w'.cell? ⟨w1.heap.size,0,none⟩=some (.int .i64 t1)∧w'.cell? ⟨w1.heap.size,1,none⟩=some (.int .i64 t2))
    (first | exact⟨x0a,x1a,t0a,t1a⟩ | exact⟨QA lXa x0a,QA lXa x1a,QA lTa t0a,QA lTa t1a⟩ | exact⟨QC hb7 (by (try simp)<;>omega) (QA lXa x0a),QC hb7 (by (try simp)<;>omega) (QA lXa x1a),QC hb7 (by (try simp)<;>omega) (QA lTa t0a),QC hb7 (by (try simp)<;>omega) (QA lTa t1a)⟩ | exact⟨(World.cell?_setCell_far _ _ _ _ (by (try simp)<;>omega)).trans ((World.cell?_setCell_far _ _ _ _ (by (try simp)<;>omega)).trans (QC hb7 (by (try simp)<;>omega) (QA lXa x0a))),(World.cell?_setCell_far _ _ _ _ (by (try simp)<;>omega)).trans ((World.cell?_setCell_far _ _ _ _ (by (try simp)<;>omega)).trans (QC hb7 (by (try simp)<;>omega) (QA lXa x1a))),(World.cell?_setCell_far _ _ _ _ (by (try simp)<;>omega)).trans ((World.cell?_setCell_far _ _ _ _ (by (try simp)<;>omega)).trans (QC hb7 (by (try simp)<;>omega) (QA lTa t0a))),(World.cell?_setCell_far _ _ _ _ (by (try simp)<;>omega)).trans ((World.cell?_setCell_far _ _ _ _ (by (try simp)<;>omega)).trans (QC hb7 (by (try simp)<;>omega) (QA lTa t1a)))⟩)
    (first | (go_at_call 210;refine(Aa HAND).mono ?_;rintro e w7 ⟨ua,uc,rfl,ht7,hb7⟩;have Z7:=stay hb7 ZA;have z0':=Ab Z7 0;have z1':=Ab Z7 1;have q0':=Ae Z7 0;have q1':=Ae Z7 1;simp at z0' z1'))
   have hB7:=QB hBA hb7;have lb:=lt_of_block ZA;have hk8:=(Kp.set_lo (e:=none) (i:=0) (g:=w.heap.size+1+1+1) (w:=w7) lb (.slice (some ⟨gl,ol,none⟩) x.locals.length lc)).trans (Kp.set_lo (i:=1) (g:=w.heap.size+1+1+1) lb (.slice ua (x.stack.length+1) uc));have ht8:=TysAt.kp ht7 hk8 (by decide);have hB8:=(hB7.setCell (p:=⟨w.heap.size+1+1+1,0,none⟩) (by simp;omega) (.slice (some ⟨gl,ol,none⟩) x.locals.length lc)).setCell (p:=⟨w.heap.size+1+1+1,1,none⟩) (by simp;omega) (.slice ua (x.stack.length+1) uc);go_wp2_with fail
   refine bodyPost_ret (v:=.tuple #[.agg #[.slice (some ⟨gl,ol,none⟩) x.locals.length lc,.slice ua (x.stack.length+1) uc],.bool false]) (by simp[results,Tryz.results179,go_sem,z0',z1']) rfl ?_;obtain rfl:=Aa HE;exact⟨⟨some ⟨gl,ol,none⟩,x.locals.length,lc,ua,(x.stack.length+1),uc⟩,rfl,fun y hy=>by simp at hy,hB8⟩
  ·rw[if_neg ht]at hR2;have HE:=Ac hR2;have ht':(t1 != 0)=true:=by simpa using ht
   clear hR2 ht;go_enter Tryz.func179,Tryz.ntmps179;go_wp2_with fail
   refine(Aa HAr _).mono ?_;rintro e w1 ⟨rfl,hb1⟩;have hB1:=QB hB0 hb1;have hs1:=hB1.size;have F1:=stay hb1 F0;have M1:=stay hb1 M0;have X1:=stay hb1 X0;have Z1:=stay hb1 Z0;obtain⟨f0,f1⟩:=cl2 F1;obtain⟨x0,x1⟩:=cl2 X1;obtain⟨z0,z1⟩:=cl2 Z1;obtain⟨q0,q1⟩:=fr2 Z1;have lF:=lt_of_block F1;have lM:=lt_of_block M1;have lX:=lt_of_block X1;have lZ:=lt_of_block Z1;obtain⟨m0,m1,m2,m3,m4,m5,m6,m7,m8,m9,m10,m11⟩:=Ap M1;simp at f0 f1 x0 x1 z0 z1 m0 m1 m2 m3 m4 m5 m6 m7 m8 m9 m10 m11;clear hb1 F0 M0 X0 Z0 hB0;have tA:=Ad w1 (O7 t1 t2);have ZA0:=Aj Z1 (O7 t1 t2);have XA0:=Aj X1 (O7 t1 t2);have x0a:(w1.alloc (O7 t1 t2)).cell? ⟨w.heap.size+1+1,0,none⟩=some (.slice (some ⟨gl,ol,none⟩) x.locals.length lc):=(Ab XA0 0).trans rfl;have x1a:(w1.alloc (O7 t1 t2)).cell? ⟨w.heap.size+1+1,1,none⟩=some (.slice sa x.stack.length sc):=(Ab XA0 1).trans rfl;have lXa:w.heap.size+1+1<(w1.alloc (O7 t1 t2)).drew.heap.size:=lt_of_block XA0;have t0a:(w1.alloc (O7 t1 t2)).cell? ⟨w1.heap.size,0,none⟩=some (.int .i64 t1):=(Ab tA 0).trans rfl;have t1a:(w1.alloc (O7 t1 t2)).cell? ⟨w1.heap.size,1,none⟩=some (.int .i64 t2):=(Ab tA 1).trans rfl;have lTa:w1.heap.size<(w1.alloc (O7 t1 t2)).drew.heap.size:=lt_of_block tA;obtain⟨s0,s1,hgl⟩:=Aa S0 _ hB1;have hBA:Below w.heap.size w ((w1.alloc (O7 t1 t2)).alloc (O7 t1 t2)).drew:=((hB1.alloc hs1 _).alloc (by simp;omega) _).drew;have ZA:((w1.alloc (O7 t1 t2)).alloc (O7 t1 t2)).drew.heap[w.heap.size+1+1+1]?=some (O25 none 0 0 none 0 0):=Aj ZA0 (O7 t1 t2);have hn1:TyR ((w1.alloc (O7 t1 t2)).alloc (O7 t1 t2)).drew (.slice (some ⟨(w1.alloc (O7 t1 t2)).heap.size,0,none⟩) 1 1) [(t1,t2)]:=(TyR.new1 (w1.alloc (O7 t1 t2)) t1 t2).below (Below.refl _ _).drew;have hand:Calls Tryz.prog 210 #[.slice sa x.stack.length sc,.slice (some ⟨w1.heap.size+1,0,none⟩) 1 1] ((w1.alloc (O7 t1 t2)).alloc (O7 t1 t2)).drew fun e w' =>
     ∃ a c,e=.returned (.slice a (x.stack.length+1) c)∧TysAt w' ((w1.alloc (O7 t1 t2)).alloc (O7 t1 t2)).drew.heap.size (.slice a (x.stack.length+1) c) (x.stack++[(t1,t2)])∧Below ((w1.alloc (O7 t1 t2)).alloc (O7 t1 t2)).drew.heap.size ((w1.alloc (O7 t1 t2)).alloc (O7 t1 t2)).drew w':=by
    have h:=Dt (x.stack) ([(t1,t2)]) sa (some ⟨w1.heap.size+1,0,none⟩) x.stack.length sc 1 1 ((w1.alloc (O7 t1 t2)).alloc (O7 t1 t2)).drew (hst.below hBA) (by simpa using hn1) (by simp;omega)
    simpa using h
   have HAND:=Ac hand;clear hand;clear hn1;go_wp2
   go_region_held3 (fun w'=>w'.cell? ⟨w.heap.size+1+1,0,none⟩=some (.slice (some ⟨gl,ol,none⟩) x.locals.length lc)∧w'.cell? ⟨w.heap.size+1+1,1,none⟩=some (.slice sa x.stack.length sc)∧w'.cell? ⟨w1.heap.size,0,none⟩=some (.int .i64 t1)∧w'.cell? ⟨w1.heap.size,1,none⟩=some (.int .i64 t2))
    (first | exact⟨x0a,x1a,t0a,t1a⟩ | exact⟨QA lXa x0a,QA lXa x1a,QA lTa t0a,QA lTa t1a⟩ | exact⟨QC hb7 (by (try simp)<;>omega) (QA lXa x0a),QC hb7 (by (try simp)<;>omega) (QA lXa x1a),QC hb7 (by (try simp)<;>omega) (QA lTa t0a),QC hb7 (by (try simp)<;>omega) (QA lTa t1a)⟩ | exact⟨(World.cell?_setCell_far _ _ _ _ (by (try simp)<;>omega)).trans ((World.cell?_setCell_far _ _ _ _ (by (try simp)<;>omega)).trans (QC hb7 (by (try simp)<;>omega) (QA lXa x0a))),(World.cell?_setCell_far _ _ _ _ (by (try simp)<;>omega)).trans ((World.cell?_setCell_far _ _ _ _ (by (try simp)<;>omega)).trans (QC hb7 (by (try simp)<;>omega) (QA lXa x1a))),(World.cell?_setCell_far _ _ _ _ (by (try simp)<;>omega)).trans ((World.cell?_setCell_far _ _ _ _ (by (try simp)<;>omega)).trans (QC hb7 (by (try simp)<;>omega) (QA lTa t0a))),(World.cell?_setCell_far _ _ _ _ (by (try simp)<;>omega)).trans ((World.cell?_setCell_far _ _ _ _ (by (try simp)<;>omega)).trans (QC hb7 (by (try simp)<;>omega) (QA lTa t1a)))⟩)
    (first | (go_at_call 210;refine(Aa HAND).mono ?_;rintro e w7 ⟨ua,uc,rfl,ht7,hb7⟩;have Z7:=stay hb7 ZA;have z0':=Ab Z7 0;have z1':=Ab Z7 1;have q0':=Ae Z7 0;have q1':=Ae Z7 1;simp at z0' z1'))
   have hB7:=QB hBA hb7;have lb:=lt_of_block ZA;have hk8:=(Kp.set_lo (e:=none) (i:=0) (g:=w.heap.size+1+1+1) (w:=w7) lb (.slice (some ⟨gl,ol,none⟩) x.locals.length lc)).trans (Kp.set_lo (i:=1) (g:=w.heap.size+1+1+1) lb (.slice ua (x.stack.length+1) uc));have ht8:=TysAt.kp ht7 hk8 (by decide);have hB8:=(hB7.setCell (p:=⟨w.heap.size+1+1+1,0,none⟩) (by simp;omega) (.slice (some ⟨gl,ol,none⟩) x.locals.length lc)).setCell (p:=⟨w.heap.size+1+1+1,1,none⟩) (by simp;omega) (.slice ua (x.stack.length+1) uc);go_wp2_with fail
   refine bodyPost_ret (v:=.tuple #[.agg #[.slice (some ⟨gl,ol,none⟩) x.locals.length lc,.slice ua (x.stack.length+1) uc],.bool true]) (by simp[results,Tryz.results179,go_sem,z0',z1']) rfl ?_;obtain rfl:=Aa HE;refine⟨⟨some ⟨gl,ol,none⟩,x.locals.length,lc,ua,(x.stack.length+1),uc⟩,rfl,fun y hy=>?_,hB8⟩;simp only[Option.some.injEq]at hy;subst hy;exact⟨hlo.below hB8,Bl ht8 (by (try simp)<;>omega),by (try simp)<;>omega,by (try simp)<;>omega⟩
 have n2:((code[p].toNat:Int)==2)=false:=by simp;omega
 have i2:=hop;clear hop;by_cases hop:(code[p].toNat:Int)=3
 ·have hq:=Aa HN3 (by rw[hop];simp);obtain⟨q,rfl⟩:=Int.eq_ofNat_of_zero_le hq.1;have hql:q<x.locals.length:=by omega
  have hqi:(q:Int)<(x.locals.length:Int):=by omega
  by_cases hst0:x.stack.length<1
  ·have HE:Hid (R=none):=by unfold Hid;rw[← hres];unfold Aa6;rw[hop];simp[hst0]
   have hst1:(x.stack.length:Int)<1:=by omega
   clear hres hst0;go_enter Tryz.func179,Tryz.ntmps179;go_wp2_with fail
   refine(Aa HAr _).mono ?_;rintro e w1 ⟨rfl,hb1⟩;have hB1:=QB hB0 hb1;have hs1:=hB1.size;have F1:=stay hb1 F0;have M1:=stay hb1 M0;have X1:=stay hb1 X0;have Z1:=stay hb1 Z0;obtain⟨f0,f1⟩:=cl2 F1;obtain⟨x0,x1⟩:=cl2 X1;obtain⟨z0,z1⟩:=cl2 Z1;obtain⟨q0,q1⟩:=fr2 Z1;have lF:=lt_of_block F1;have lM:=lt_of_block M1;have lX:=lt_of_block X1;have lZ:=lt_of_block Z1;obtain⟨m0,m1,m2,m3,m4,m5,m6,m7,m8,m9,m10,m11⟩:=Ap M1;simp at f0 f1 x0 x1 z0 z1 m0 m1 m2 m3 m4 m5 m6 m7 m8 m9 m10 m11;clear hb1 F0 M0 X0 Z0 hB0;go_wp2_with fail
   refine bodyPost_ret (v:=.tuple #[.agg #[.slice la x.locals.length lc,.slice sa x.stack.length sc],.bool false]) (by simp[results,Tryz.results179,go_sem,z0,z1]) rfl ?_;obtain rfl:=Aa HE;exact⟨⟨la,x.locals.length,lc,sa,x.stack.length,sc⟩,rfl,fun y hy=>by simp at hy,(hB1.setCell (by simp;omega) _).setCell (by simp;omega) _⟩
  ·obtain⟨h',hh⟩:∃ h':Nat,x.stack.length=h'+1:=⟨x.stack.length-1,by omega⟩;have hlt:h' < x.stack.length:=by omega
   have hgd:x.stack.getD (x.stack.length-1) (0,0)=x.stack[h']:=by
    rw[show x.stack.length-1=h' by omega];simp[List.getD_eq_getElem?_getD,hlt]
   obtain⟨gs,os,rfl,hgs0,hat⟩:=hst.at (by omega);obtain⟨s0,s1⟩:=hat h' hlt;have HE:Hid (R=some ⟨x.locals.set q (x.stack[h']),x.stack.take h'⟩):=by
    unfold Hid;rw[← hres];unfold Aa6;rw[hop,if_neg (by omega),if_pos rfl,if_neg (by omega),hgd,show x.stack.length-1=h' by omega];rfl
   generalize x.stack[h']=tt at *;obtain⟨t1,t2⟩:=tt;simp only at s0 s1;have S0:Hid (∀ w',Below w.heap.size w w'→w'.cell? ⟨gs,os+h' * 2,none⟩=some (.int .i64 t1)∧w'.cell? ⟨gs,os+h' * 2+1,none⟩=some (.int .i64 t2)∧gs<w'.heap.size):=fun w' h=>⟨(h.cell hgs0).trans s0,(h.cell hgs0).trans s1,Nat.lt_of_lt_of_le hgs0 h.size⟩;have hsubw:IntKind.i64.wrap ((x.stack.length:Int)-1)=(h':Int):=by rw[show (x.stack.length:Int)-1=(h':Int) by omega];exact Bd _ (by omega) (by omega)
   have hsub:(x.stack.length:Int)-1=(h':Int):=by omega
   have hlti:(h':Int)<(x.stack.length:Int):=by omega
   have hlec:(h':Int)≤(sc:Int):=by omega
   have hlx:h'≤x.stack.length:=by omega
   have hst1:¬ (x.stack.length:Int)<1:=by omega
   have hlen1:x.stack.length-h'=1:=by omega
   have hwh:IntKind.i64.wrap (h':Int)=(h':Int):=Bd _ (by omega) (by omega);have hscn:¬ sc=h':=by omega
   clear s0 s1 hat hgd hgs0 hst0 hres hh hlt;go_enter Tryz.func179,Tryz.ntmps179;go_wp2_with fail
   refine(Aa HAr _).mono ?_;rintro e w1 ⟨rfl,hb1⟩;have hB1:=QB hB0 hb1;have hs1:=hB1.size;have F1:=stay hb1 F0;have M1:=stay hb1 M0;have X1:=stay hb1 X0;have Z1:=stay hb1 Z0;obtain⟨f0,f1⟩:=cl2 F1;obtain⟨x0,x1⟩:=cl2 X1;obtain⟨z0,z1⟩:=cl2 Z1;obtain⟨q0,q1⟩:=fr2 Z1;have lF:=lt_of_block F1;have lM:=lt_of_block M1;have lX:=lt_of_block X1;have lZ:=lt_of_block Z1;obtain⟨m0,m1,m2,m3,m4,m5,m6,m7,m8,m9,m10,m11⟩:=Ap M1;simp at f0 f1 x0 x1 z0 z1 m0 m1 m2 m3 m4 m5 m6 m7 m8 m9 m10 m11;clear hb1 F0 M0 X0 Z0 hB0;have hand:Calls Tryz.prog 210 #[.slice la x.locals.length lc,.slice none 0 0] w1 fun e w'=>∃ a c,e=.returned (.slice a x.locals.length c)∧TysAt w' w1.heap.size (.slice a x.locals.length c) x.locals∧Below w1.heap.size w1 w':=by
    have h:=Dt x.locals [] la none x.locals.length lc 0 0 w1 (hlo.below hB1) (TyR.nil _) (by simp;omega)
    simpa using h
   have HAND:=Ac hand;clear hand;go_wp2_with fail
   refine(Aa HAND).mono ?_;rintro e w2 ⟨ta,tc,rfl,ht2,hb2⟩;have hB2:=hB1.trans (hb2.mono hs1);have hs2:=hB2.size;have X2:=stay hb2 X1;have Z2:=stay hb2 Z1;obtain⟨gt,rfl,hgt,hbg,cq0,cq1,fq0,fq1,hset⟩:=Fy ht2 hql t1 t2;have hne1:gt≠w.heap.size+1+1:=by omega
   have hne2:w.heap.size+1+1≠gt:=by omega
   have hne3:gt≠w.heap.size+1+1+1:=by omega
   have hne4:w.heap.size+1+1+1≠gt:=by omega
   obtain⟨s0,s1,hgs⟩:=Aa S0 _ hB2;clear f0 f1 x0 x1 z0 z1 q0 q1 lF lM lX m0 m1 m2 m3 m4 m5 m6 m7 m8 m9 m10 m11 HAND;have x1:=Ab X2 1;obtain⟨z0,z1⟩:=cl2 Z2;obtain⟨q0,q1⟩:=fr2 Z2;have lX:=lt_of_block X2;have lZ2:=lt_of_block Z2;simp at x1 z0 z1;have hB3:=(hB2.setCell (p:=⟨gt,q*2,none⟩) (by simp;omega) (.int .i64 t1)).setCell (p:=⟨gt,q*2+1,none⟩) (by simp;omega) (.int .i64 t2);have hB8:=(hB3.setCell (p:=⟨w.heap.size+1+1+1,0,none⟩) (by simp;omega) (.slice (some ⟨gt,0,none⟩) x.locals.length tc)).setCell (p:=⟨w.heap.size+1+1+1,1,none⟩) (by simp;omega) (.slice (some ⟨gs,os,none⟩) h' sc);have hk8:=(Kp.set_lo (e:=none) (b:=w1.heap.size) (i:=0) (g:=w.heap.size+1+1+1) (w:=(w2.setCell ⟨gt,q*2,none⟩ (.int .i64 t1)).setCell ⟨gt,q*2+1,none⟩ (.int .i64 t2)) lZ (.slice (some ⟨gt,0,none⟩) x.locals.length tc)).trans (Kp.set_lo (i:=1) (g:=w.heap.size+1+1+1) lZ (.slice (some ⟨gs,os,none⟩) h' sc));have ht8:=TysAt.kp hset hk8 (by decide);go_wp2_with fail
   refine bodyPost_ret (v:=.tuple #[.agg #[.slice (some ⟨gt,0,none⟩) x.locals.length tc,.slice (some ⟨gs,os,none⟩) h' sc],.bool true]) (by simp[results,Tryz.results179,go_sem,z0,z1]) rfl ?_;obtain rfl:=Aa HE;refine⟨⟨some ⟨gt,0,none⟩,x.locals.length,tc,some ⟨gs,os,none⟩,h',sc⟩,rfl,fun y hy=>?_,hB8⟩;simp only[Option.some.injEq]at hy;subst hy;exact⟨Bl ht8 (by simp),(hst.take hlx).below hB8,by simp;omega,by simp;omega⟩
 have n3:((code[p].toNat:Int)==3)=false:=by simp;omega
 have i3:=hop;clear hop;by_cases hop:(code[p].toNat:Int)=4
 ·by_cases hst0:x.stack.length<1
  ·have HE:Hid (R=none):=by unfold Hid;rw[← hres];unfold Aa6;rw[hop];simp[hst0]
   have hst1:(x.stack.length:Int)<1:=by omega
   clear hres hst0;go_enter Tryz.func179,Tryz.ntmps179;go_wp2_with fail
   refine(Aa HAr _).mono ?_;rintro e w1 ⟨rfl,hb1⟩;have hB1:=QB hB0 hb1;have hs1:=hB1.size;have F1:=stay hb1 F0;have M1:=stay hb1 M0;have X1:=stay hb1 X0;have Z1:=stay hb1 Z0;obtain⟨f0,f1⟩:=cl2 F1;obtain⟨x0,x1⟩:=cl2 X1;obtain⟨z0,z1⟩:=cl2 Z1;obtain⟨q0,q1⟩:=fr2 Z1;have lF:=lt_of_block F1;have lM:=lt_of_block M1;have lX:=lt_of_block X1;have lZ:=lt_of_block Z1;obtain⟨m0,m1,m2,m3,m4,m5,m6,m7,m8,m9,m10,m11⟩:=Ap M1;simp at f0 f1 x0 x1 z0 z1 m0 m1 m2 m3 m4 m5 m6 m7 m8 m9 m10 m11;clear hb1 F0 M0 X0 Z0 hB0;go_wp2_with fail
   refine bodyPost_ret (v:=.tuple #[.agg #[.slice la x.locals.length lc,.slice sa x.stack.length sc],.bool false]) (by simp[results,Tryz.results179,go_sem,z0,z1]) rfl ?_;obtain rfl:=Aa HE;exact⟨⟨la,x.locals.length,lc,sa,x.stack.length,sc⟩,rfl,fun y hy=>by simp at hy,(hB1.setCell (by simp;omega) _).setCell (by simp;omega) _⟩
  ·obtain⟨h',hh⟩:∃ h':Nat,x.stack.length=h'+1:=⟨x.stack.length-1,by omega⟩;have hlt:h' < x.stack.length:=by omega
   have hgd:x.stack.getD (x.stack.length-1) (0,0)=x.stack[h']:=by
    rw[show x.stack.length-1=h' by omega];simp[List.getD_eq_getElem?_getD,hlt]
   obtain⟨gs,os,rfl,hgs0,hat⟩:=hst.at (by omega);obtain⟨s0,s1⟩:=hat h' hlt;have HE:Hid (R=some ⟨x.locals,x.stack.take h'⟩):=by
    unfold Hid;rw[← hres];unfold Aa6;rw[hop,if_neg (by omega),if_neg (by omega),if_pos rfl,if_neg (by omega),show x.stack.length-1=h' by omega]
   generalize x.stack[h']=tt at *;obtain⟨t1,t2⟩:=tt;simp only at s0 s1;have S0:Hid (∀ w',Below w.heap.size w w'→w'.cell? ⟨gs,os+h' * 2,none⟩=some (.int .i64 t1)∧w'.cell? ⟨gs,os+h' * 2+1,none⟩=some (.int .i64 t2)∧gs<w'.heap.size):=fun w' h=>⟨(h.cell hgs0).trans s0,(h.cell hgs0).trans s1,Nat.lt_of_lt_of_le hgs0 h.size⟩;have hsubw:IntKind.i64.wrap ((x.stack.length:Int)-1)=(h':Int):=by rw[show (x.stack.length:Int)-1=(h':Int) by omega];exact Bd _ (by omega) (by omega)
   have hsub:(x.stack.length:Int)-1=(h':Int):=by omega
   have hlti:(h':Int)<(x.stack.length:Int):=by omega
   have hlec:(h':Int)≤(sc:Int):=by omega
   have hlx:h'≤x.stack.length:=by omega
   have hst1:¬ (x.stack.length:Int)<1:=by omega
   have hlen1:x.stack.length-h'=1:=by omega
   have hwh:IntKind.i64.wrap (h':Int)=(h':Int):=Bd _ (by omega) (by omega);have hscn:¬ sc=h':=by omega
   clear s0 s1 hat hgd hgs0 hst0 hres hh hlt;go_enter Tryz.func179,Tryz.ntmps179;go_wp2_with fail
   refine(Aa HAr _).mono ?_;rintro e w1 ⟨rfl,hb1⟩;have hB1:=QB hB0 hb1;have hs1:=hB1.size;have F1:=stay hb1 F0;have M1:=stay hb1 M0;have X1:=stay hb1 X0;have Z1:=stay hb1 Z0;obtain⟨f0,f1⟩:=cl2 F1;obtain⟨x0,x1⟩:=cl2 X1;obtain⟨z0,z1⟩:=cl2 Z1;obtain⟨q0,q1⟩:=fr2 Z1;have lF:=lt_of_block F1;have lM:=lt_of_block M1;have lX:=lt_of_block X1;have lZ:=lt_of_block Z1;obtain⟨m0,m1,m2,m3,m4,m5,m6,m7,m8,m9,m10,m11⟩:=Ap M1;simp at f0 f1 x0 x1 z0 z1 m0 m1 m2 m3 m4 m5 m6 m7 m8 m9 m10 m11;clear hb1 F0 M0 X0 Z0 hB0;have hB8:=((hB1.drew.setCell (p:=⟨w.heap.size+1+1+1,0,none⟩) (by simp;omega) (.slice la x.locals.length lc)).setCell (p:=⟨w.heap.size+1+1+1,1,none⟩) (by simp;omega) (.slice (some ⟨gs,os,none⟩) h' sc));go_wp2
   go_region
   go_wp2_with fail
   refine bodyPost_ret (v:=.tuple #[.agg #[.slice la x.locals.length lc,.slice (some ⟨gs,os,none⟩) h' sc],.bool true]) (by simp[results,Tryz.results179,go_sem,z0,z1]) rfl ?_;obtain rfl:=Aa HE;refine⟨⟨la,x.locals.length,lc,some ⟨gs,os,none⟩,h',sc⟩,rfl,fun y hy=>?_,⟨hB8.os,hB8.tape,hB8.output,hB8.size,hB8.block⟩⟩;simp only[Option.some.injEq]at hy;subst hy;have hB9:Below w.heap.size w _:=⟨hB8.os,hB8.tape,hB8.output,hB8.size,hB8.block⟩;exact⟨hlo.below hB9,(hst.take hlx).below hB9,by (try simp)<;>omega,by simp;omega⟩
 have n4:((code[p].toNat:Int)==4)=false:=by simp;omega
 have i4:=hop;clear hop;by_cases hop:(code[p].toNat:Int)=5
 ·by_cases hst0:x.stack.length<1
  ·have HE:Hid (R=none):=by unfold Hid;rw[← hres];unfold Aa6;rw[hop];simp[hst0]
   have hst1:(x.stack.length:Int)<1:=by omega
   clear hres hst0;go_enter Tryz.func179,Tryz.ntmps179;go_wp2_with fail
   refine(Aa HAr _).mono ?_;rintro e w1 ⟨rfl,hb1⟩;have hB1:=QB hB0 hb1;have hs1:=hB1.size;have F1:=stay hb1 F0;have M1:=stay hb1 M0;have X1:=stay hb1 X0;have Z1:=stay hb1 Z0;obtain⟨f0,f1⟩:=cl2 F1;obtain⟨x0,x1⟩:=cl2 X1;obtain⟨z0,z1⟩:=cl2 Z1;obtain⟨q0,q1⟩:=fr2 Z1;have lF:=lt_of_block F1;have lM:=lt_of_block M1;have lX:=lt_of_block X1;have lZ:=lt_of_block Z1;obtain⟨m0,m1,m2,m3,m4,m5,m6,m7,m8,m9,m10,m11⟩:=Ap M1;simp at f0 f1 x0 x1 z0 z1 m0 m1 m2 m3 m4 m5 m6 m7 m8 m9 m10 m11;clear hb1 F0 M0 X0 Z0 hB0;go_wp2_with fail
   refine bodyPost_ret (v:=.tuple #[.agg #[.slice la x.locals.length lc,.slice sa x.stack.length sc],.bool false]) (by simp[results,Tryz.results179,go_sem,z0,z1]) rfl ?_;obtain rfl:=Aa HE;exact⟨⟨la,x.locals.length,lc,sa,x.stack.length,sc⟩,rfl,fun y hy=>by simp at hy,(hB1.setCell (by simp;omega) _).setCell (by simp;omega) _⟩
  ·obtain⟨h',hh⟩:∃ h':Nat,x.stack.length=h'+1:=⟨x.stack.length-1,by omega⟩;have hlt:h' < x.stack.length:=by omega
   have hgd:x.stack.getD (x.stack.length-1) (0,0)=x.stack[h']:=by
    rw[show x.stack.length-1=h' by omega];simp[List.getD_eq_getElem?_getD,hlt]
   obtain⟨gs,os,rfl,hgs0,hat⟩:=hst.at (by omega);obtain⟨s0,s1⟩:=hat h' hlt;have HE:Hid (R=some ⟨x.locals,x.stack++x.stack.drop h'⟩):=by
    unfold Hid;rw[← hres];unfold Aa6;rw[hop,if_neg (by omega),if_neg (by omega),if_neg (by omega),if_pos rfl,if_neg (by omega),show x.stack.length-1=h' by omega]
   generalize x.stack[h']=tt at *;obtain⟨t1,t2⟩:=tt;simp only at s0 s1;have S0:Hid (∀ w',Below w.heap.size w w'→w'.cell? ⟨gs,os+h' * 2,none⟩=some (.int .i64 t1)∧w'.cell? ⟨gs,os+h' * 2+1,none⟩=some (.int .i64 t2)∧gs<w'.heap.size):=fun w' h=>⟨(h.cell hgs0).trans s0,(h.cell hgs0).trans s1,Nat.lt_of_lt_of_le hgs0 h.size⟩;have hsubw:IntKind.i64.wrap ((x.stack.length:Int)-1)=(h':Int):=by rw[show (x.stack.length:Int)-1=(h':Int) by omega];exact Bd _ (by omega) (by omega)
   have hsub:(x.stack.length:Int)-1=(h':Int):=by omega
   have hlti:(h':Int)<(x.stack.length:Int):=by omega
   have hlec:(h':Int)≤(sc:Int):=by omega
   have hlx:h'≤x.stack.length:=by omega
   have hst1:¬ (x.stack.length:Int)<1:=by omega
   have hlen1:x.stack.length-h'=1:=by omega
   have hwh:IntKind.i64.wrap (h':Int)=(h':Int):=Bd _ (by omega) (by omega);have hscn:¬ sc=h':=by omega
   clear s0 s1 hat hgd hgs0 hst0 hres hh hlt;go_enter Tryz.func179,Tryz.ntmps179;go_wp2_with fail
   refine(Aa HAr _).mono ?_;rintro e w1 ⟨rfl,hb1⟩;have hB1:=QB hB0 hb1;have hs1:=hB1.size;have F1:=stay hb1 F0;have M1:=stay hb1 M0;have X1:=stay hb1 X0;have Z1:=stay hb1 Z0;obtain⟨f0,f1⟩:=cl2 F1;obtain⟨x0,x1⟩:=cl2 X1;obtain⟨z0,z1⟩:=cl2 Z1;obtain⟨q0,q1⟩:=fr2 Z1;have lF:=lt_of_block F1;have lM:=lt_of_block M1;have lX:=lt_of_block X1;have lZ:=lt_of_block Z1;obtain⟨m0,m1,m2,m3,m4,m5,m6,m7,m8,m9,m10,m11⟩:=Ap M1;simp at f0 f1 x0 x1 z0 z1 m0 m1 m2 m3 m4 m5 m6 m7 m8 m9 m10 m11;clear hb1 F0 M0 X0 Z0 hB0;have x0a:w1.cell? ⟨w.heap.size+1+1,0,none⟩=some (.slice la x.locals.length lc):=(Ab X1 0).trans rfl;have x1a:w1.cell? ⟨w.heap.size+1+1,1,none⟩=some (.slice (some ⟨gs,os,none⟩) x.stack.length sc):=(Ab X1 1).trans rfl;have lXa:w.heap.size+1+1<w1.drew.heap.size:=lt_of_block X1;have hBA:Below w.heap.size w w1.drew:=hB1.drew;have ZA:w1.drew.heap[w.heap.size+1+1+1]?=some (O25 none 0 0 none 0 0):=Z1;have hdr:TyR w1.drew (.slice (some ⟨gs,os+h' * 2,none⟩) 1 (sc-h')) (x.stack.drop h'):=(hst.below hBA).drop hlx (by omega) rfl;have hdl:(x.stack.drop h').length=1:=by simp;omega
   have hand:Calls Tryz.prog 210 #[.slice (some ⟨gs,os,none⟩) x.stack.length sc,.slice (some ⟨gs,os+h' * 2,none⟩) 1 (sc-h')] w1.drew fun e w' =>
     ∃ a c,e=.returned (.slice a (x.stack.length+1) c)∧TysAt w' w1.drew.heap.size (.slice a (x.stack.length+1) c) (x.stack++x.stack.drop h')∧Below w1.drew.heap.size w1.drew w':=by
    have h:=Dt (x.stack) (x.stack.drop h') (some ⟨gs,os,none⟩) (some ⟨gs,os+h' * 2,none⟩) x.stack.length sc 1 (sc-h') w1.drew (hst.below hBA) (hdr) (by rw[hdl];omega);rw[hdl]at h;exact h
   have HAND:=Ac hand;clear hand;clear hdr;go_wp2
   go_region_held3 (fun w'=>w'.cell? ⟨w.heap.size+1+1,0,none⟩=some (.slice la x.locals.length lc)∧w'.cell? ⟨w.heap.size+1+1,1,none⟩=some (.slice (some ⟨gs,os,none⟩) x.stack.length sc))
    (first | exact⟨x0a,x1a⟩ | exact⟨QC hb7 (by (try simp)<;>omega) (x0a),QC hb7 (by (try simp)<;>omega) (x1a)⟩ | exact⟨(World.cell?_setCell_far _ _ _ _ (by (try simp)<;>omega)).trans ((World.cell?_setCell_far _ _ _ _ (by (try simp)<;>omega)).trans (QC hb7 (by (try simp)<;>omega) (x0a))),(World.cell?_setCell_far _ _ _ _ (by (try simp)<;>omega)).trans ((World.cell?_setCell_far _ _ _ _ (by (try simp)<;>omega)).trans (QC hb7 (by (try simp)<;>omega) (x1a)))⟩)
    (first | (go_at_call 210;refine(Aa HAND).mono ?_;rintro e w7 ⟨ua,uc,rfl,ht7,hb7⟩;have Z7:=stay hb7 ZA;have z0':=Ab Z7 0;have z1':=Ab Z7 1;have q0':=Ae Z7 0;have q1':=Ae Z7 1;simp at z0' z1'))
   have hB7:=QB hBA hb7;have lb:=lt_of_block ZA;have hk8:=(Kp.set_lo (e:=none) (i:=0) (g:=w.heap.size+1+1+1) (w:=w7) lb (.slice la x.locals.length lc)).trans (Kp.set_lo (i:=1) (g:=w.heap.size+1+1+1) lb (.slice ua (x.stack.length+1) uc));have ht8:=TysAt.kp ht7 hk8 (by decide);have hB8:=(hB7.setCell (p:=⟨w.heap.size+1+1+1,0,none⟩) (by simp;omega) (.slice la x.locals.length lc)).setCell (p:=⟨w.heap.size+1+1+1,1,none⟩) (by simp;omega) (.slice ua (x.stack.length+1) uc);go_wp2_with fail
   refine bodyPost_ret (v:=.tuple #[.agg #[.slice la x.locals.length lc,.slice ua (x.stack.length+1) uc],.bool true]) (by simp[results,Tryz.results179,go_sem,z0',z1']) rfl ?_;obtain rfl:=Aa HE;refine⟨⟨la,x.locals.length,lc,ua,(x.stack.length+1),uc⟩,rfl,fun y hy=>?_,hB8⟩;simp only[Option.some.injEq]at hy;subst hy;exact⟨hlo.below hB8,Bl ht8 (by rw[List.length_append,hdl]),by (try simp)<;>omega,by rw[List.length_append,hdl];omega⟩
 have n5:((code[p].toNat:Int)==5)=false:=by simp;omega
 have i5:=hop;clear hop;by_cases hop:(code[p].toNat:Int)=6
 ·by_cases hst0:x.stack.length<2
  ·have HE:Hid (R=none):=by unfold Hid;rw[← hres];unfold Aa6;rw[hop];simp[hst0]
   have hst1:(x.stack.length:Int)<2:=by omega
   clear hres hst0;go_enter Tryz.func179,Tryz.ntmps179;go_wp2_with fail
   refine(Aa HAr _).mono ?_;rintro e w1 ⟨rfl,hb1⟩;have hB1:=QB hB0 hb1;have hs1:=hB1.size;have F1:=stay hb1 F0;have M1:=stay hb1 M0;have X1:=stay hb1 X0;have Z1:=stay hb1 Z0;obtain⟨f0,f1⟩:=cl2 F1;obtain⟨x0,x1⟩:=cl2 X1;obtain⟨z0,z1⟩:=cl2 Z1;obtain⟨q0,q1⟩:=fr2 Z1;have lF:=lt_of_block F1;have lM:=lt_of_block M1;have lX:=lt_of_block X1;have lZ:=lt_of_block Z1;obtain⟨m0,m1,m2,m3,m4,m5,m6,m7,m8,m9,m10,m11⟩:=Ap M1;simp at f0 f1 x0 x1 z0 z1 m0 m1 m2 m3 m4 m5 m6 m7 m8 m9 m10 m11;clear hb1 F0 M0 X0 Z0 hB0;go_wp2_with fail
   refine bodyPost_ret (v:=.tuple #[.agg #[.slice la x.locals.length lc,.slice sa x.stack.length sc],.bool false]) (by simp[results,Tryz.results179,go_sem,z0,z1]) rfl ?_;obtain rfl:=Aa HE;exact⟨⟨la,x.locals.length,lc,sa,x.stack.length,sc⟩,rfl,fun y hy=>by simp at hy,(hB1.setCell (by simp;omega) _).setCell (by simp;omega) _⟩
  ·obtain⟨h',hh⟩:∃ h':Nat,x.stack.length=h'+2:=⟨x.stack.length-2,by omega⟩;obtain⟨k1,hk1⟩:∃ k1:Nat,k1=h'+1:=⟨_,rfl⟩;have hlt:h' < x.stack.length:=by omega
   have hlt1:k1<x.stack.length:=by omega
   have hgd:x.stack.getD (x.stack.length-2) (0,0)=x.stack[h']:=by
    rw[show x.stack.length-2=h' by omega];simp[List.getD_eq_getElem?_getD,hlt]
   have hgd1:x.stack.getD (x.stack.length-1) (0,0)=x.stack[k1]:=by
    rw[show x.stack.length-1=k1 by omega];simp[List.getD_eq_getElem?_getD,hlt1]
   obtain⟨gs,os,rfl,hgs0,hat⟩:=hst.at (by omega);obtain⟨s0,s1⟩:=hat k1 hlt1;obtain⟨s2,s3⟩:=hat h' hlt;have HE:Hid (R=some ⟨x.locals,x.stack.take h' ++ [x.stack[k1],x.stack[h']]⟩):=by
    unfold Hid;rw[← hres];unfold Aa6;rw[hop,if_neg (by omega),if_neg (by omega),if_neg (by omega),if_neg (by omega),if_pos rfl,if_neg (by omega),hgd,hgd1,show x.stack.length-2=h' by omega]
   generalize x.stack[k1]=tt at *;generalize x.stack[h']=uu at *;obtain⟨t1,t2⟩:=tt;obtain⟨u1,u2⟩:=uu;simp only at s0 s1 s2 s3;have S0:Hid (∀ w',Below w.heap.size w w'→w'.cell? ⟨gs,os+k1*2,none⟩=some (.int .i64 t1)∧w'.cell? ⟨gs,os+k1*2+1,none⟩=some (.int .i64 t2)∧w'.cell? ⟨gs,os+h' * 2,none⟩=some (.int .i64 u1)∧w'.cell? ⟨gs,os+h' * 2+1,none⟩=some (.int .i64 u2)∧gs<w'.heap.size):=fun w' h=>⟨(h.cell hgs0).trans s0,(h.cell hgs0).trans s1,(h.cell hgs0).trans s2,(h.cell hgs0).trans s3,Nat.lt_of_lt_of_le hgs0 h.size⟩;have hsubw1:IntKind.i64.wrap ((x.stack.length:Int)-1)=(k1:Int):=by rw[show (x.stack.length:Int)-1=(k1:Int) by omega];exact Bd _ (by omega) (by omega)
   have hsubw2:IntKind.i64.wrap ((x.stack.length:Int)-2)=(h':Int):=by rw[show (x.stack.length:Int)-2=(h':Int) by omega];exact Bd _ (by omega) (by omega)
   have hsub1:(x.stack.length:Int)-1=(k1:Int):=by omega
   have hsub2:(x.stack.length:Int)-2=(h':Int):=by omega
   have hlti:(h':Int)<(x.stack.length:Int):=by omega
   have hlti1:(k1:Int)<(x.stack.length:Int):=by omega
   have hlec:(h':Int)≤(sc:Int):=by omega
   have hlx:h'≤x.stack.length:=by omega
   have hst1:¬ (x.stack.length:Int)<2:=by omega
   have hwh:IntKind.i64.wrap (h':Int)=(h':Int):=Bd _ (by omega) (by omega);have hwk:IntKind.i64.wrap (k1:Int)=(k1:Int):=Bd _ (by omega) (by omega);clear s0 s1 s2 s3 hat hgd hgd1 hst0 hres hh hlt hlt1 hk1;go_enter Tryz.func179,Tryz.ntmps179;go_wp2_with fail
   refine(Aa HAr _).mono ?_;rintro e w1 ⟨rfl,hb1⟩;have hB1:=QB hB0 hb1;have hs1:=hB1.size;have F1:=stay hb1 F0;have M1:=stay hb1 M0;have X1:=stay hb1 X0;have Z1:=stay hb1 Z0;obtain⟨f0,f1⟩:=cl2 F1;obtain⟨x0,x1⟩:=cl2 X1;obtain⟨z0,z1⟩:=cl2 Z1;obtain⟨q0,q1⟩:=fr2 Z1;have lF:=lt_of_block F1;have lM:=lt_of_block M1;have lX:=lt_of_block X1;have lZ:=lt_of_block Z1;obtain⟨m0,m1,m2,m3,m4,m5,m6,m7,m8,m9,m10,m11⟩:=Ap M1;simp at f0 f1 x0 x1 z0 z1 m0 m1 m2 m3 m4 m5 m6 m7 m8 m9 m10 m11;clear hb1 F0 M0 X0 Z0 hB0;have x0a:w1.cell? ⟨w.heap.size+1+1,0,none⟩=some (.slice la x.locals.length lc):=(Ab X1 0).trans rfl;have x1a:w1.cell? ⟨w.heap.size+1+1,1,none⟩=some (.slice (some ⟨gs,os,none⟩) x.stack.length sc):=(Ab X1 1).trans rfl;have lXa:w.heap.size+1+1<w1.drew.heap.size:=lt_of_block X1;obtain⟨s0,s1,s2,s3,hgs⟩:=Aa S0 _ hB1;have lSa:gs<w1.drew.heap.size:=hgs;have hBA:Below w.heap.size w (w1.alloc (O24 t1 t2 u1 u2)).drew:=(hB1.alloc hs1 _).drew;have ZA:(w1.alloc (O24 t1 t2 u1 u2)).drew.heap[w.heap.size+1+1+1]?=some (O25 none 0 0 none 0 0):=Aj Z1 (O24 t1 t2 u1 u2);have hn1:TyR (w1.alloc (O24 t1 t2 u1 u2)).drew (.slice (some ⟨w1.heap.size,0,none⟩) 2 2) [(t1,t2),(u1,u2)]:=(TyR.new2 w1 t1 t2 u1 u2).below (Below.refl _ _).drew;have htk:=(hst.below hBA).take hlx;have htl:(x.stack.take h').length=h':=by simp;omega
   have hand:Calls Tryz.prog 210 #[.slice (some ⟨gs,os,none⟩) h' sc,.slice (some ⟨w1.heap.size,0,none⟩) 2 2] (w1.alloc (O24 t1 t2 u1 u2)).drew fun e w' =>
     ∃ a c,e=.returned (.slice a (h'+2) c)∧TysAt w' (w1.alloc (O24 t1 t2 u1 u2)).drew.heap.size (.slice a (h'+2) c) (x.stack.take h' ++ [(t1,t2),(u1,u2)])∧Below (w1.alloc (O24 t1 t2 u1 u2)).drew.heap.size (w1.alloc (O24 t1 t2 u1 u2)).drew w':=by
    have h:=Dt (x.stack.take h') ([(t1,t2),(u1,u2)]) (some ⟨gs,os,none⟩) (some ⟨w1.heap.size,0,none⟩) h' sc 2 2 (w1.alloc (O24 t1 t2 u1 u2)).drew (htk) (hn1) (by rw[htl];simp;omega);rw[htl]at h;exact h
   have HAND:=Ac hand;clear hand;clear hn1 htk;go_wp2
   go_region_held3 (fun w'=>w'.cell? ⟨w.heap.size+1+1,0,none⟩=some (.slice la x.locals.length lc)∧w'.cell? ⟨w.heap.size+1+1,1,none⟩=some (.slice (some ⟨gs,os,none⟩) x.stack.length sc)∧w'.cell? ⟨gs,os+k1*2,none⟩=some (.int .i64 t1)∧w'.cell? ⟨gs,os+k1*2+1,none⟩=some (.int .i64 t2)∧w'.cell? ⟨gs,os+h' * 2,none⟩=some (.int .i64 u1)∧w'.cell? ⟨gs,os+h' * 2+1,none⟩=some (.int .i64 u2))
    (first | exact⟨x0a,x1a,s0,s1,s2,s3⟩ | exact⟨QA lXa x0a,QA lXa x1a,QA lSa s0,QA lSa s1,QA lSa s2,QA lSa s3⟩ | exact⟨QC hb7 (by (try simp)<;>omega) (QA lXa x0a),QC hb7 (by (try simp)<;>omega) (QA lXa x1a),QC hb7 (by (try simp)<;>omega) (QA lSa s0),QC hb7 (by (try simp)<;>omega) (QA lSa s1),QC hb7 (by (try simp)<;>omega) (QA lSa s2),QC hb7 (by (try simp)<;>omega) (QA lSa s3)⟩ | exact⟨(World.cell?_setCell_far _ _ _ _ (by (try simp)<;>omega)).trans ((World.cell?_setCell_far _ _ _ _ (by (try simp)<;>omega)).trans (QC hb7 (by (try simp)<;>omega) (QA lXa x0a))),(World.cell?_setCell_far _ _ _ _ (by (try simp)<;>omega)).trans ((World.cell?_setCell_far _ _ _ _ (by (try simp)<;>omega)).trans (QC hb7 (by (try simp)<;>omega) (QA lXa x1a))),(World.cell?_setCell_far _ _ _ _ (by (try simp)<;>omega)).trans ((World.cell?_setCell_far _ _ _ _ (by (try simp)<;>omega)).trans (QC hb7 (by (try simp)<;>omega) (QA lSa s0))),(World.cell?_setCell_far _ _ _ _ (by (try simp)<;>omega)).trans ((World.cell?_setCell_far _ _ _ _ (by (try simp)<;>omega)).trans (QC hb7 (by (try simp)<;>omega) (QA lSa s1))),(World.cell?_setCell_far _ _ _ _ (by (try simp)<;>omega)).trans ((World.cell?_setCell_far _ _ _ _ (by (try simp)<;>omega)).trans (QC hb7 (by (try simp)<;>omega) (QA lSa s2))),(World.cell?_setCell_far _ _ _ _ (by (try simp)<;>omega)).trans ((World.cell?_setCell_far _ _ _ _ (by (try simp)<;>omega)).trans (QC hb7 (by (try simp)<;>omega) (QA lSa s3)))⟩)
    (first | (go_at_call 210;refine(Aa HAND).mono ?_;rintro e w7 ⟨ua,uc,rfl,ht7,hb7⟩;have Z7:=stay hb7 ZA;have z0':=Ab Z7 0;have z1':=Ab Z7 1;have q0':=Ae Z7 0;have q1':=Ae Z7 1;simp at z0' z1'))
   have hB7:=QB hBA hb7;have lb:=lt_of_block ZA;have hk8:=(Kp.set_lo (e:=none) (i:=0) (g:=w.heap.size+1+1+1) (w:=w7) lb (.slice la x.locals.length lc)).trans (Kp.set_lo (i:=1) (g:=w.heap.size+1+1+1) lb (.slice ua (h'+2) uc));have ht8:=TysAt.kp ht7 hk8 (by decide);have hB8:=(hB7.setCell (p:=⟨w.heap.size+1+1+1,0,none⟩) (by simp;omega) (.slice la x.locals.length lc)).setCell (p:=⟨w.heap.size+1+1+1,1,none⟩) (by simp;omega) (.slice ua (h'+2) uc);go_wp2_with fail
   refine bodyPost_ret (v:=.tuple #[.agg #[.slice la x.locals.length lc,.slice ua (h'+2) uc],.bool true]) (by simp[results,Tryz.results179,go_sem,z0',z1']) rfl ?_;obtain rfl:=Aa HE;refine⟨⟨la,x.locals.length,lc,ua,(h'+2),uc⟩,rfl,fun y hy=>?_,hB8⟩;simp only[Option.some.injEq]at hy;subst hy;exact⟨hlo.below hB8,Bl ht8 (by rw[List.length_append,htl]),by (try simp)<;>omega,by rw[List.length_append,htl];simp;omega⟩
 have n6:((code[p].toNat:Int)==6)=false:=by simp;omega
 have i6:=hop;clear hop;by_cases hop:(code[p].toNat:Int)=15
 ·have HE:Hid (R=some ⟨Zy (4,(p:Int)) (0,0) x.locals,Zy (4,(p:Int)) (0,0) x.stack++[(4,(p:Int))]⟩):=by
   unfold Hid;rw[← hres];unfold Aa6;rw[hop,if_neg (by omega),if_neg (by omega),if_neg (by omega),if_neg (by omega),if_neg (by omega),if_pos rfl]
  clear hres;go_enter Tryz.func179,Tryz.ntmps179;go_wp2_with fail
  refine(Aa HAr _).mono ?_;rintro e w1 ⟨rfl,hb1⟩;have hB1:=QB hB0 hb1;have hs1:=hB1.size;have F1:=stay hb1 F0;have M1:=stay hb1 M0;have X1:=stay hb1 X0;have Z1:=stay hb1 Z0;obtain⟨f0,f1⟩:=cl2 F1;obtain⟨x0,x1⟩:=cl2 X1;obtain⟨z0,z1⟩:=cl2 Z1;obtain⟨q0,q1⟩:=fr2 Z1;have lF:=lt_of_block F1;have lM:=lt_of_block M1;have lX:=lt_of_block X1;have lZ:=lt_of_block Z1;obtain⟨m0,m1,m2,m3,m4,m5,m6,m7,m8,m9,m10,m11⟩:=Ap M1;simp at f0 f1 x0 x1 z0 z1 m0 m1 m2 m3 m4 m5 m6 m7 m8 m9 m10 m11;clear hb1 F0 M0 X0 Z0 hB0;have hBA0:=hB1.alloc hs1 (O7 4 (p:Int));have tA:=Ad w1 (O7 4 (p:Int));have XA:=Aj X1 (O7 4 (p:Int));have ZA0:=Aj Z1 (O7 4 (p:Int));go_wp2_with fail
  refine(Fc x.locals la x.locals.length lc 4 (p:Int) 0 0 _ (hlo.below hBA0) (by omega)).mono ?_;rintro e w2 ⟨ta,tc,rfl,ht2,hb2⟩;have hB2:=QB hBA0 hb2;have hs2:=hB2.size;have t2A:=stay hb2 tA;have X2:=stay hb2 XA;have Z2:=stay hb2 ZA0;clear f0 f1 x0 x1 z0 z1 q0 q1 lF lM lX m0 m1 m2 m3 m4 m5 m6 m7 m8 m9 m10 m11 tA XA ZA0 hb2;have x1:=Ab X2 1;obtain⟨t0,t1⟩:=cl2 t2A;have lX:=lt_of_block X2;have lT:=lt_of_block t2A;simp at x1 t0 t1;go_wp2_with fail
  refine(Fc x.stack sa x.stack.length sc 4 (p:Int) 0 0 _ (hst.below hB2) (by omega)).mono ?_;rintro e w3 ⟨va,vc,rfl,ht3,hb3⟩;have hB3:=hB2.trans (hb3.mono hs2);have hs3:=hB3.size;have t3A:=stay hb3 t2A;have Z3:=stay hb3 Z2;have ht2':=TysAt.kp ht2 (Kp.of_below (e:=none) hb3) (by decide);clear x1 t0 t1 lX lT t2A X2 hb3;obtain⟨t0,t1⟩:=cl2 t3A;have lT:=lt_of_block t3A;simp at t0 t1;have hBA:=hB3.alloc hs3 (O7 4 (p:Int));have ZA:=Aj Z3 (O7 4 (p:Int));have hn1:=TyR.new1 w3 4 (p:Int);have htl:(Zy (4,(p:Int)) (0,0) x.stack).length=x.stack.length:=by simp[Zy]
  have htv:TyR (w3.alloc (O7 4 (p:Int))) (.slice va x.stack.length vc) (Zy (4,(p:Int)) (0,0) x.stack):=(Bl ht3 (by rw[htl])).below (QN _);have hand:Calls Tryz.prog 210 #[.slice va x.stack.length vc,.slice (some ⟨w3.heap.size,0,none⟩) 1 1] (w3.alloc (O7 4 (p:Int))) fun e w' =>
    ∃ a c,e=.returned (.slice a (x.stack.length+1) c)∧TysAt w' (w3.alloc (O7 4 (p:Int))).heap.size (.slice a (x.stack.length+1) c) (Zy (4,(p:Int)) (0,0) x.stack++[(4,(p:Int))])∧Below (w3.alloc (O7 4 (p:Int))).heap.size (w3.alloc (O7 4 (p:Int))) w':=by
   have h:=Dt (Zy (4,(p:Int)) (0,0) x.stack) ([(4,(p:Int))]) va (some ⟨w3.heap.size,0,none⟩) x.stack.length vc 1 1 (w3.alloc (O7 4 (p:Int))) (htv) (hn1) (by rw[htl];simp;omega);rw[htl]at h;exact h
  have HAND:=Ac hand;clear hand;clear hn1 htv;go_wp2_with fail
  refine(Aa HAND).mono ?_;rintro e w7 ⟨ua,uc,rfl,ht7,hb7⟩;have Z7:=stay hb7 ZA;have z0':=Ab Z7 0;have z1':=Ab Z7 1;have q0':=Ae Z7 0;have q1':=Ae Z7 1;simp at z0' z1';have ht2w:=TysAt.kp (TysAt.kp ht2' (Kp.alloc (e:=none) _ _) (by decide)) (Kp.of_below (e:=none) hb7) (by decide);have lb2:w.heap.size+1+1+1<(w1.alloc (O7 4 (p:Int))).heap.size:=by simp;omega
  have hB7:=QB hBA hb7;have lb:=lt_of_block ZA;have hk8:=(Kp.set_lo (e:=none) (i:=0) (g:=w.heap.size+1+1+1) (w:=w7) lb (.slice ta x.locals.length tc)).trans (Kp.set_lo (i:=1) (g:=w.heap.size+1+1+1) lb (.slice ua (x.stack.length+1) uc));have ht8:=TysAt.kp ht7 hk8 (by decide);have hB8:=(hB7.setCell (p:=⟨w.heap.size+1+1+1,0,none⟩) (by simp;omega) (.slice ta x.locals.length tc)).setCell (p:=⟨w.heap.size+1+1+1,1,none⟩) (by simp;omega) (.slice ua (x.stack.length+1) uc);go_wp2_with fail
  refine bodyPost_ret (v:=.tuple #[.agg #[.slice ta x.locals.length tc,.slice ua (x.stack.length+1) uc],.bool true]) (by simp[results,Tryz.results179,go_sem,z0',z1']) rfl ?_;obtain rfl:=Aa HE;refine⟨⟨ta,x.locals.length,tc,ua,(x.stack.length+1),uc⟩,rfl,fun y hy=>?_,hB8⟩;simp only[Option.some.injEq]at hy;subst hy;exact⟨Bl (TysAt.kp ht2w ((Kp.set_lo (e:=none) (i:=0) lb2 _).trans (Kp.set_lo (i:=1) lb2 _)) (by decide)) (by simp[Zy]),Bl ht8 (by rw[List.length_append,htl]),by simp[Zy];omega,by rw[List.length_append,htl];simp;omega⟩
 have n15:((code[p].toNat:Int)==15)=false:=by simp;omega
 have i15:=hop;clear hop;by_cases hop:(code[p].toNat:Int)=16
 ·have hq:=Aa HN4 hop;obtain⟨q,rfl⟩:=Int.eq_ofNat_of_zero_le hq.1;have hql:q<l.length:=by omega
  have hR2:R=Ado (RFl.mk fa1 fc1 fa2 fc2 bb l ms).T (Rf.all (RFl.mk fa1 fc1 fa2 fc2 bb l ms).T (l.map Prod.fst) q) (fun q=>Rf.at' code.data.toList (q+1)) (q:Int) x:=by
   rw[← hres];unfold Aa6;rw[hop,if_neg (by omega),if_neg (by omega),if_neg (by omega),if_neg (by omega),if_neg (by omega),if_neg (by omega),if_pos rfl];rfl
  have hST:=fun w' h=>Aa HSET q w' h hql;rw[← hR2]at hST;have HST:=Ac hST;clear hST hres hR2 HSET;go_enter Tryz.func179,Tryz.ntmps179;go_wp2_with fail
  refine(Aa HAr _).mono ?_;rintro e w1 ⟨rfl,hb1⟩;have hB1:=QB hB0 hb1;have hs1:=hB1.size;have F1:=stay hb1 F0;have M1:=stay hb1 M0;have X1:=stay hb1 X0;have Z1:=stay hb1 Z0;obtain⟨f0,f1⟩:=cl2 F1;obtain⟨x0,x1⟩:=cl2 X1;obtain⟨z0,z1⟩:=cl2 Z1;obtain⟨q0,q1⟩:=fr2 Z1;have lF:=lt_of_block F1;have lM:=lt_of_block M1;have lX:=lt_of_block X1;have lZ:=lt_of_block Z1;obtain⟨m0,m1,m2,m3,m4,m5,m6,m7,m8,m9,m10,m11⟩:=Ap M1;simp at f0 f1 x0 x1 z0 z1 m0 m1 m2 m3 m4 m5 m6 m7 m8 m9 m10 m11;clear hb1 F0 M0 X0 Z0 hB0;go_wp2_with fail
  refine(Aa HST _ hB1).mono ?_;rintro e w2 ⟨u,rfl,hu,hb2⟩;obtain⟨ula,uln,ulc,usa,usn,usc⟩:=u;have hB2:=hB1.trans (hb2.mono hs1);have Z2:=stay hb2 Z1;clear f0 f1 x0 x1 z0 z1 q0 q1 lF lM lX m0 m1 m2 m3 m4 m5 m6 m7 m8 m9 m10 m11 HST;obtain⟨z0,z1⟩:=cl2 Z2;obtain⟨q0,q1⟩:=fr2 Z2;have lZ2:=lt_of_block Z2;simp at z0 z1;go_wp2_with fail
  refine bodyPost_ret (v:=.tuple #[.agg #[.slice ula uln ulc,.slice usa usn usc],.bool R.isSome]) (by simp[results,Tryz.results179,go_sem,z0,z1]) rfl ?_;refine⟨⟨ula,uln,ulc,usa,usn,usc⟩,rfl,fun y hy=>?_,(hB2.setCell (by simp;omega) _).setCell (by simp;omega) _⟩;have h:=hu y hy;exact⟨h.lo.set_frame Z2 _ _,h.st.set_frame Z2 _ _,h.hl,h.hs⟩
 have n16:((code[p].toNat:Int)==16)=false:=by simp;omega
 have i16:=hop;clear hop;have hTKl:=Aa HTKL;have hLVl:=Aa HLVL;obtain⟨TK,hTKe⟩:∃ TK,Aag (RFl.mk fa1 fc1 fa2 fc2 bb l ms).fields (ms.map fun x=>x.1.m) (r1,r2) (code[p].toNat:Int) n=TK:=⟨_,rfl⟩;obtain⟨LV,hLVe⟩:∃ LV,Aal (RFl.mk fa1 fc1 fa2 fc2 bb l ms).fields (ms.map fun x=>x.1.m) (code[p].toNat:Int) n=LV:=⟨_,rfl⟩;rw[hTKe]at hTKl HTK;rw[hLVe]at hLVl HLV;have hR2:R=(if Abu (RFl.mk fa1 fc1 fa2 fc2 bb l ms).T x.stack TK=false then none else some ⟨x.locals,x.stack.take (x.stack.length-TK.length)++LV⟩):=by
  rw[← hres,← hTKe,← hLVe];unfold Aa6;rw[if_neg i2,if_neg i3,if_neg i4,if_neg i5,if_neg i6,if_neg i15,if_neg i16]
 have hTPx:=fun a2 n2 c2 w' h h2=>Aa HTP TK a2 n2 c2 w' h h2 (by omega);have hTPle:Abu (RFl.mk fa1 fc1 fa2 fc2 bb l ms).T x.stack TK=true→TK.length≤x.stack.length:=by
  intro h;unfold Abu at h;by_cases h':x.stack.length<TK.length
  ·rw[if_pos h']at h;simp at h
  ·omega
 generalize Abu (RFl.mk fa1 fc1 fa2 fc2 bb l ms).T x.stack TK=TP at *;have HTPx:=Ac hTPx;clear hTPx HTP hres hTKe hLVe i2 i3 i4 i5 i6 i15 i16;cases TP with
 | false =>
  rw[if_pos rfl]at hR2;have HE:=Ac hR2;clear hR2;go_enter Tryz.func179,Tryz.ntmps179;go_wp2_with fail
  refine(Aa HAr _).mono ?_;rintro e w1 ⟨rfl,hb1⟩;have hB1:=QB hB0 hb1;have hs1:=hB1.size;have F1:=stay hb1 F0;have M1:=stay hb1 M0;have X1:=stay hb1 X0;have Z1:=stay hb1 Z0;obtain⟨f0,f1⟩:=cl2 F1;obtain⟨x0,x1⟩:=cl2 X1;obtain⟨z0,z1⟩:=cl2 Z1;obtain⟨q0,q1⟩:=fr2 Z1;have lF:=lt_of_block F1;have lM:=lt_of_block M1;have lX:=lt_of_block X1;have lZ:=lt_of_block Z1;obtain⟨m0,m1,m2,m3,m4,m5,m6,m7,m8,m9,m10,m11⟩:=Ap M1;simp at f0 f1 x0 x1 z0 z1 m0 m1 m2 m3 m4 m5 m6 m7 m8 m9 m10 m11;clear hb1 F0 M0 X0 Z0 hB0;go_wp2_with fail
  refine(Aa HTK _ hB1).mono ?_;rintro e w2 ⟨ka,kc,rfl,htk,hb2⟩;have hB2:=hB1.trans (hb2.mono hs1);have F2:=stay hb2 F1;have M2:=stay hb2 M1;have X2:=stay hb2 X1;have Z2:=stay hb2 Z1;have hs2:=hB2.size;clear f0 f1 x0 x1 z0 z1 q0 q1 lF lM lX lZ m0 m1 m2 m3 m4 m5 m6 m7 m8 m9 m10 m11 F1 M1 X1 Z1 hb2;obtain⟨f0,f1⟩:=cl2 F2;obtain⟨m0,m1,m2,m3,m4,m5,m6,m7,m8,m9,m10,m11⟩:=Ap M2;have lF:=lt_of_block F2;have lM:=lt_of_block M2;simp at f0 f1 m0 m1 m2 m3 m4 m5 m6 m7 m8 m9 m10 m11;go_wp2_with fail
  refine(Aa HLV _ hB2).mono ?_;rintro e w3 ⟨va,vc,rfl,hlv,hb3⟩;have hB3:=hB2.trans (hb3.mono hs2);have htk3:=htk.below hb3;have F3:=stay hb3 F2;have X3:=stay hb3 X2;have Z3:=stay hb3 Z2;have hs3:=hB3.size;clear f0 f1 lF lM m0 m1 m2 m3 m4 m5 m6 m7 m8 m9 m10 m11 F2 M2 X2 Z2 hb3;obtain⟨f0,f1⟩:=cl2 F3;have x1:=Ab X3 1;have lF:=lt_of_block F3;have lX:=lt_of_block X3;simp at f0 f1 x1;go_wp2_with fail
  refine(Aa HTPx ka TK.length kc _ hB3 htk3).mono ?_;rintro e w4 ⟨rfl,hb4⟩;have hB4:=hB3.trans (hb4.mono hs3);have hs4:=hB4.size;have hlv4:=hlv.below hb4;have X4:=stay hb4 X3;have Z4:=stay hb4 Z3;clear f0 f1 x1 lF lX F3 X3 Z3 hb4;obtain⟨x0,x1⟩:=cl2 X4;obtain⟨z0,z1⟩:=cl2 Z4;obtain⟨q0,q1⟩:=fr2 Z4;have lX:=lt_of_block X4;have lZ:=lt_of_block Z4;simp at x0 x1 z0 z1;go_wp2_with fail
  refine bodyPost_ret (v:=.tuple #[.agg #[.slice la x.locals.length lc,.slice sa x.stack.length sc],.bool false]) (by simp[results,Tryz.results179,go_sem,z0,z1]) rfl ?_;obtain rfl:=Aa HE;exact⟨⟨la,x.locals.length,lc,sa,x.stack.length,sc⟩,rfl,fun y hy=>by simp at hy,(hB4.setCell (by simp;omega) _).setCell (by simp;omega) _⟩
 | true =>
  rw[if_neg (by simp)]at hR2;have hle:=hTPle rfl;obtain⟨low,hlow⟩:∃ low:Nat,x.stack.length=low+TK.length:=⟨x.stack.length-TK.length,by omega⟩;have e0:x.stack.length-TK.length=low:=by omega
  rw[e0]at hR2;have HE:=Ac hR2;have hsubw:IntKind.i64.wrap ((x.stack.length:Int)-(TK.length:Int))=(low:Int):=by rw[show (x.stack.length:Int)-(TK.length:Int)=(low:Int) by omega];exact Bd _ (by omega) (by omega)
  have hsub:(x.stack.length:Int)-(TK.length:Int)=(low:Int):=by omega
  have hwl:IntKind.i64.wrap (low:Int)=(low:Int):=Bd _ (by omega) (by omega);have hlec:(low:Int)≤(sc:Int):=by omega
  have hlx:low≤x.stack.length:=by omega
  have htl:(x.stack.take low).length=low:=by simp;omega
  clear hR2 e0 hle hlow hTPle;rcases hst.addr with ⟨hsa,hsc⟩ | ⟨gs,os,hsa⟩
  ·subst hsa hsc;have hl0:low=0:=by omega
   subst hl0;have hw0:IntKind.i64.wrap 0=0:=Bd _ (by omega) (by omega);go_enter Tryz.func179,Tryz.ntmps179;go_wp2_with fail
   refine(Aa HAr _).mono ?_;rintro e w1 ⟨rfl,hb1⟩;have hB1:=QB hB0 hb1;have hs1:=hB1.size;have F1:=stay hb1 F0;have M1:=stay hb1 M0;have X1:=stay hb1 X0;have Z1:=stay hb1 Z0;obtain⟨f0,f1⟩:=cl2 F1;obtain⟨x0,x1⟩:=cl2 X1;obtain⟨z0,z1⟩:=cl2 Z1;obtain⟨q0,q1⟩:=fr2 Z1;have lF:=lt_of_block F1;have lM:=lt_of_block M1;have lX:=lt_of_block X1;have lZ:=lt_of_block Z1;obtain⟨m0,m1,m2,m3,m4,m5,m6,m7,m8,m9,m10,m11⟩:=Ap M1;simp at f0 f1 x0 x1 z0 z1 m0 m1 m2 m3 m4 m5 m6 m7 m8 m9 m10 m11;clear hb1 F0 M0 X0 Z0 hB0;go_wp2_with fail
   refine(Aa HTK _ hB1).mono ?_;rintro e w2 ⟨ka,kc,rfl,htk,hb2⟩;have hB2:=hB1.trans (hb2.mono hs1);have F2:=stay hb2 F1;have M2:=stay hb2 M1;have X2:=stay hb2 X1;have Z2:=stay hb2 Z1;have hs2:=hB2.size;clear f0 f1 x0 x1 z0 z1 q0 q1 lF lM lX lZ m0 m1 m2 m3 m4 m5 m6 m7 m8 m9 m10 m11 F1 M1 X1 Z1 hb2;obtain⟨f0,f1⟩:=cl2 F2;obtain⟨m0,m1,m2,m3,m4,m5,m6,m7,m8,m9,m10,m11⟩:=Ap M2;have lF:=lt_of_block F2;have lM:=lt_of_block M2;simp at f0 f1 m0 m1 m2 m3 m4 m5 m6 m7 m8 m9 m10 m11;go_wp2_with fail
   refine(Aa HLV _ hB2).mono ?_;rintro e w3 ⟨va,vc,rfl,hlv,hb3⟩;have hB3:=hB2.trans (hb3.mono hs2);have htk3:=htk.below hb3;have F3:=stay hb3 F2;have X3:=stay hb3 X2;have Z3:=stay hb3 Z2;have hs3:=hB3.size;clear f0 f1 lF lM m0 m1 m2 m3 m4 m5 m6 m7 m8 m9 m10 m11 F2 M2 X2 Z2 hb3;obtain⟨f0,f1⟩:=cl2 F3;have x1:=Ab X3 1;have lF:=lt_of_block F3;have lX:=lt_of_block X3;simp at f0 f1 x1;go_wp2_with fail
   refine(Aa HTPx ka TK.length kc _ hB3 htk3).mono ?_;rintro e w4 ⟨rfl,hb4⟩;have hB4:=hB3.trans (hb4.mono hs3);have hs4:=hB4.size;have hlv4:=hlv.below hb4;have X4:=stay hb4 X3;have Z4:=stay hb4 Z3;clear f0 f1 x1 lF lX F3 X3 Z3 hb4;obtain⟨x0,x1⟩:=cl2 X4;obtain⟨z0,z1⟩:=cl2 Z4;obtain⟨q0,q1⟩:=fr2 Z4;have lX:=lt_of_block X4;have lZ:=lt_of_block Z4;simp at x0 x1 z0 z1;have x0a:w4.cell? ⟨w.heap.size+1+1,0,none⟩=some (.slice la x.locals.length lc):=(Ab X4 0).trans rfl;have x1a:w4.cell? ⟨w.heap.size+1+1,1,none⟩=some (.slice none x.stack.length 0):=(Ab X4 1).trans rfl;have lXa:w.heap.size+1+1<w4.drew.heap.size:=lt_of_block X4;have hBA:Below w.heap.size w w4.drew:=hB4.drew;have ZA:w4.drew.heap[w.heap.size+1+1+1]?=some (O25 none 0 0 none 0 0):=Z4;have hand:Calls Tryz.prog 210 #[.slice none 0 0,.slice va LV.length vc] w4.drew fun e w' =>
     ∃ a c,e=.returned (.slice a LV.length c)∧TysAt w' w4.drew.heap.size (.slice a LV.length c) (x.stack.take 0++LV)∧Below w4.drew.heap.size w4.drew w':=by
    have h:=Dt (x.stack.take 0) (LV) none va 0 0 LV.length vc w4.drew ((hst.below hBA).take hlx) (hlv4.below (Below.refl _ _).drew) (by rw[htl];omega);rw[htl,Nat.zero_add]at h;exact h
   have HAND:=Ac hand;clear hand;go_wp2;refine wp_region_held_drew (S:=(fun w'=>w'.cell? ⟨w.heap.size+1+1,0,none⟩=some (.slice la x.locals.length lc)∧w'.cell? ⟨w.heap.size+1+1,1,none⟩=some (.slice none x.stack.length 0))) (by kernel_rfl) ⟨x0a,x1a⟩ (fun hHeld=>?_);refine wpAnyH_take (i:=0) (oi:=⟨_,_,_,_,_,_⟩) (v:=.pointer (some ⟨w.heap.size+1+1,0,none⟩)) rfl (by kernel_rfl) (by kernel_rfl) (by kernel_rfl) (fun _ _ _ h=>h) (Or.inl ⟨by rfl,?_⟩) hHeld ?_
   ·intro w' hSw
    try dsimp only at hSw
    go_simp
   try simp only[QX]
   refine wpAnyH_take (i:=1) (oi:=⟨_,_,_,_,_,_⟩) (v:=.slice la x.locals.length lc) rfl (by kernel_rfl) (by kernel_rfl) (by kernel_rfl) (fun _ _ _ h=>h) (Or.inl ⟨by rfl,?_⟩) hHeld ?_
   ·intro w' hSw
    try dsimp only at hSw
    go_simp
   try simp only[QX]
   refine wpAnyH_take (i:=2) (oi:=⟨_,_,_,_,_,_⟩) (v:=.pointer (some ⟨w.heap.size+1+1,1,none⟩)) rfl (by kernel_rfl) (by kernel_rfl) (by kernel_rfl) (fun _ _ _ h=>h) (Or.inl ⟨by rfl,?_⟩) hHeld ?_
   ·intro w' hSw
    try dsimp only at hSw
    go_simp
   try simp only[QX]
   refine wpAnyH_take (i:=3) (oi:=⟨_,_,_,_,_,_⟩) (v:=.slice none x.stack.length 0) rfl (by kernel_rfl) (by kernel_rfl) (by kernel_rfl) (fun _ _ _ h=>h) (Or.inl ⟨by rfl,?_⟩) hHeld ?_
   ·intro w' hSw
    try dsimp only at hSw
    go_simp
   try simp only[QX]
   refine wpAnyH_take (i:=4) (oi:=⟨_,_,_,_,_,_⟩) (v:=.int .i64 (x.stack.length:Int)) rfl (by kernel_rfl) (by kernel_rfl) (by kernel_rfl) (fun _ _ _ h=>h) (Or.inl ⟨by rfl,?_⟩) hHeld ?_
   ·intro w' hSw
    try dsimp only at hSw
    go_simp
   try simp only[QX]
   refine wpAnyH_take (i:=5) (oi:=⟨_,_,_,_,_,_⟩) (v:=.slice ka TK.length kc) rfl (by kernel_rfl) (by kernel_rfl) (by kernel_rfl) (fun _ _ _ h=>h) (Or.inl ⟨by rfl,?_⟩) hHeld ?_
   ·intro w' hSw
    try dsimp only at hSw
    go_simp
   try simp only[QX]
   refine wpAnyH_take (i:=6) (oi:=⟨_,_,_,_,_,_⟩) (v:=.int .i64 (TK.length:Int)) rfl (by kernel_rfl) (by kernel_rfl) (by kernel_rfl) (fun _ _ _ h=>h) (Or.inl ⟨by rfl,?_⟩) hHeld ?_
   ·intro w' hSw
    try dsimp only at hSw
    go_simp
   try simp only[QX]
   refine wpAnyH_take (i:=7) (oi:=⟨_,_,_,_,_,_⟩) (v:=.int .i64 0) rfl (by kernel_rfl) (by kernel_rfl) (by kernel_rfl) (fun _ _ _ h=>h) (Or.inl ⟨by rfl,?_⟩) hHeld ?_
   ·intro w' hSw
    try dsimp only at hSw
    go_simp
   try simp only[QX]
   refine wpAnyH_take (i:=8) (oi:=⟨_,_,_,_,_,_⟩) (v:=.slice none 0 0) rfl (by kernel_rfl) (by kernel_rfl) (by kernel_rfl) (fun _ _ _ h=>h) (Or.inl ⟨by rfl,?_⟩) hHeld ?_
   ·intro w' hSw
    try dsimp only at hSw
    go_simp
   try simp only[QX]
   refine wpAnyH_take (i:=9) (oi:=⟨_,_,_,_,_,_⟩) (v:=.slice va LV.length vc) rfl (by kernel_rfl) (by kernel_rfl) (by kernel_rfl) (fun _ _ _ h=>h) (Or.inl ⟨by rfl,?_⟩) hHeld ?_
   ·intro w' hSw
    try dsimp only at hSw
    go_simp
   try simp only[QX]
   refine wpAnyH_ready (rs:=[10]) (by kernel_rfl) (by simp) ?_;refine AllReadyH.cons (o:=⟨_,_,_,_,_,_⟩) rfl (fun K hK=>?_) AllReadyH.nil
   go_simp
   refine(Aa HAND).mono ?_;rintro e w7 ⟨ua,uc,rfl,ht7,hb7⟩;have Z7:=stay hb7 ZA;have z0':=Ab Z7 0;have z1':=Ab Z7 1;have q0':=Ae Z7 0;have q1':=Ae Z7 1;simp at z0' z1'
   try dsimp only
   clear hHeld;refine hK.out _ _ ⟨QC hb7 lXa x0a,QC hb7 lXa x1a⟩ (fun hHeld=>?_);clear hK K
   try simp only[QX]
   refine wpAnyH_take (i:=11) (oi:=⟨_,_,_,_,_,_⟩) (v:=.agg #[.slice la x.locals.length lc,.slice ua LV.length uc]) rfl (by kernel_rfl) (by kernel_rfl) (by kernel_rfl) (fun _ _ _ h=>h) (Or.inl ⟨by rfl,?_⟩) hHeld ?_
   ·intro w' hSw
    try dsimp only at hSw
    go_simp
   try simp only[QX]
   refine wpAnyH_ready (rs:=[12]) (by kernel_rfl) (by simp) ?_;refine AllReadyH.cons (o:=⟨_,_,_,_,_,_⟩) rfl (fun K hK=>?_) AllReadyH.nil
   go_simp
   clear hHeld;refine hK.out _ _ ⟨(World.cell?_setCell_far _ _ _ _ (by (try simp)<;>omega)).trans ((World.cell?_setCell_far _ _ _ _ (by (try simp)<;>omega)).trans (QC hb7 lXa x0a)),(World.cell?_setCell_far _ _ _ _ (by (try simp)<;>omega)).trans ((World.cell?_setCell_far _ _ _ _ (by (try simp)<;>omega)).trans (QC hb7 lXa x1a))⟩ (fun hHeld=>?_)
   clear hK K
   try simp only[QX]
   refine wpAnyH_take (i:=13) (oi:=⟨_,_,_,_,_,_⟩) (v:=.bool true) rfl (by kernel_rfl) (by kernel_rfl) (by kernel_rfl) (fun _ _ _ h=>h) (Or.inl ⟨by rfl,?_⟩) hHeld ?_
   ·intro w' hSw
    try dsimp only at hSw
    go_simp
   try simp only[QX]
   refine wpAnyH_done (by kernel_rfl) ?_ _;have hB7:=QB hBA hb7;have lb:=lt_of_block ZA;have hk8:=(Kp.set_lo (e:=none) (i:=0) (g:=w.heap.size+1+1+1) (w:=w7) lb (.slice la x.locals.length lc)).trans (Kp.set_lo (i:=1) (g:=w.heap.size+1+1+1) lb (.slice ua LV.length uc));have ht8:=TysAt.kp ht7 hk8 (by decide);have hB8:=(hB7.setCell (p:=⟨w.heap.size+1+1+1,0,none⟩) (by simp;omega) (.slice la x.locals.length lc)).setCell (p:=⟨w.heap.size+1+1+1,1,none⟩) (by simp;omega) (.slice ua LV.length uc);go_wp2_with fail
   refine bodyPost_ret (v:=.tuple #[.agg #[.slice la x.locals.length lc,.slice ua LV.length uc],.bool true]) (by simp[results,Tryz.results179,go_sem,z0',z1']) rfl ?_;obtain rfl:=Aa HE;refine⟨⟨la,x.locals.length,lc,ua,LV.length,uc⟩,rfl,fun y hy=>?_,hB8⟩;simp only[Option.some.injEq]at hy;subst hy;exact⟨hlo.below hB8,Bl ht8 (by rw[List.length_append,htl,Nat.zero_add]),by (try simp)<;>omega,by rw[List.length_append,htl];omega⟩
  ·subst hsa;go_enter Tryz.func179,Tryz.ntmps179;go_wp2_with fail
   refine(Aa HAr _).mono ?_;rintro e w1 ⟨rfl,hb1⟩;have hB1:=QB hB0 hb1;have hs1:=hB1.size;have F1:=stay hb1 F0;have M1:=stay hb1 M0;have X1:=stay hb1 X0;have Z1:=stay hb1 Z0;obtain⟨f0,f1⟩:=cl2 F1;obtain⟨x0,x1⟩:=cl2 X1;obtain⟨z0,z1⟩:=cl2 Z1;obtain⟨q0,q1⟩:=fr2 Z1;have lF:=lt_of_block F1;have lM:=lt_of_block M1;have lX:=lt_of_block X1;have lZ:=lt_of_block Z1;obtain⟨m0,m1,m2,m3,m4,m5,m6,m7,m8,m9,m10,m11⟩:=Ap M1;simp at f0 f1 x0 x1 z0 z1 m0 m1 m2 m3 m4 m5 m6 m7 m8 m9 m10 m11;clear hb1 F0 M0 X0 Z0 hB0;go_wp2_with fail
   refine(Aa HTK _ hB1).mono ?_;rintro e w2 ⟨ka,kc,rfl,htk,hb2⟩;have hB2:=hB1.trans (hb2.mono hs1);have F2:=stay hb2 F1;have M2:=stay hb2 M1;have X2:=stay hb2 X1;have Z2:=stay hb2 Z1;have hs2:=hB2.size;clear f0 f1 x0 x1 z0 z1 q0 q1 lF lM lX lZ m0 m1 m2 m3 m4 m5 m6 m7 m8 m9 m10 m11 F1 M1 X1 Z1 hb2;obtain⟨f0,f1⟩:=cl2 F2;obtain⟨m0,m1,m2,m3,m4,m5,m6,m7,m8,m9,m10,m11⟩:=Ap M2;have lF:=lt_of_block F2;have lM:=lt_of_block M2;simp at f0 f1 m0 m1 m2 m3 m4 m5 m6 m7 m8 m9 m10 m11;go_wp2_with fail
   refine(Aa HLV _ hB2).mono ?_;rintro e w3 ⟨va,vc,rfl,hlv,hb3⟩;have hB3:=hB2.trans (hb3.mono hs2);have htk3:=htk.below hb3;have F3:=stay hb3 F2;have X3:=stay hb3 X2;have Z3:=stay hb3 Z2;have hs3:=hB3.size;clear f0 f1 lF lM m0 m1 m2 m3 m4 m5 m6 m7 m8 m9 m10 m11 F2 M2 X2 Z2 hb3;obtain⟨f0,f1⟩:=cl2 F3;have x1:=Ab X3 1;have lF:=lt_of_block F3;have lX:=lt_of_block X3;simp at f0 f1 x1;go_wp2_with fail
   refine(Aa HTPx ka TK.length kc _ hB3 htk3).mono ?_;rintro e w4 ⟨rfl,hb4⟩;have hB4:=hB3.trans (hb4.mono hs3);have hs4:=hB4.size;have hlv4:=hlv.below hb4;have X4:=stay hb4 X3;have Z4:=stay hb4 Z3;clear f0 f1 x1 lF lX F3 X3 Z3 hb4;obtain⟨x0,x1⟩:=cl2 X4;obtain⟨z0,z1⟩:=cl2 Z4;obtain⟨q0,q1⟩:=fr2 Z4;have lX:=lt_of_block X4;have lZ:=lt_of_block Z4;simp at x0 x1 z0 z1;have x0a:w4.cell? ⟨w.heap.size+1+1,0,none⟩=some (.slice la x.locals.length lc):=(Ab X4 0).trans rfl;have x1a:w4.cell? ⟨w.heap.size+1+1,1,none⟩=some (.slice (some ⟨gs,os,none⟩) x.stack.length sc):=(Ab X4 1).trans rfl;have lXa:w.heap.size+1+1<w4.drew.heap.size:=lt_of_block X4;have hBA:Below w.heap.size w w4.drew:=hB4.drew;have ZA:w4.drew.heap[w.heap.size+1+1+1]?=some (O25 none 0 0 none 0 0):=Z4;have hand:Calls Tryz.prog 210 #[.slice (some ⟨gs,os,none⟩) low sc,.slice va LV.length vc] w4.drew fun e w' =>
     ∃ a c,e=.returned (.slice a (low+LV.length) c)∧TysAt w' w4.drew.heap.size (.slice a (low+LV.length) c) (x.stack.take low++LV)∧Below w4.drew.heap.size w4.drew w':=by
    have h:=Dt (x.stack.take low) (LV) (some ⟨gs,os,none⟩) va low sc LV.length vc w4.drew ((hst.below hBA).take hlx) (hlv4.below (Below.refl _ _).drew) (by rw[htl];omega);rw[htl]at h;exact h
   have HAND:=Ac hand;clear hand;go_wp2
   go_region_held3 (fun w'=>w'.cell? ⟨w.heap.size+1+1,0,none⟩=some (.slice la x.locals.length lc)∧w'.cell? ⟨w.heap.size+1+1,1,none⟩=some (.slice (some ⟨gs,os,none⟩) x.stack.length sc))
    (first | exact⟨x0a,x1a⟩ | exact⟨QC hb7 (by (try simp)<;>omega) (x0a),QC hb7 (by (try simp)<;>omega) (x1a)⟩ | exact⟨(World.cell?_setCell_far _ _ _ _ (by (try simp)<;>omega)).trans ((World.cell?_setCell_far _ _ _ _ (by (try simp)<;>omega)).trans (QC hb7 (by (try simp)<;>omega) (x0a))),(World.cell?_setCell_far _ _ _ _ (by (try simp)<;>omega)).trans ((World.cell?_setCell_far _ _ _ _ (by (try simp)<;>omega)).trans (QC hb7 (by (try simp)<;>omega) (x1a)))⟩)
    (first | (go_at_call 210;refine(Aa HAND).mono ?_;rintro e w7 ⟨ua,uc,rfl,ht7,hb7⟩;have Z7:=stay hb7 ZA;have z0':=Ab Z7 0;have z1':=Ab Z7 1;have q0':=Ae Z7 0;have q1':=Ae Z7 1;simp at z0' z1'))
   have hB7:=QB hBA hb7;have lb:=lt_of_block ZA;have hk8:=(Kp.set_lo (e:=none) (i:=0) (g:=w.heap.size+1+1+1) (w:=w7) lb (.slice la x.locals.length lc)).trans (Kp.set_lo (i:=1) (g:=w.heap.size+1+1+1) lb (.slice ua (low+LV.length) uc));have ht8:=TysAt.kp ht7 hk8 (by decide);have hB8:=(hB7.setCell (p:=⟨w.heap.size+1+1+1,0,none⟩) (by simp;omega) (.slice la x.locals.length lc)).setCell (p:=⟨w.heap.size+1+1+1,1,none⟩) (by simp;omega) (.slice ua (low+LV.length) uc);go_wp2_with fail
   refine bodyPost_ret (v:=.tuple #[.agg #[.slice la x.locals.length lc,.slice ua (low+LV.length) uc],.bool true]) (by simp[results,Tryz.results179,go_sem,z0',z1']) rfl ?_;obtain rfl:=Aa HE;refine⟨⟨la,x.locals.length,lc,ua,(low+LV.length),uc⟩,rfl,fun y hy=>?_,hB8⟩;simp only[Option.some.injEq]at hy;subst hy;exact⟨hlo.below hB8,Bl ht8 (by rw[List.length_append,htl]),by (try simp)<;>omega,by rw[List.length_append,htl];omega⟩
end Go.Proofs.YtcefiamkoincoaaGreat
