/- a part of the proof in YtcefiamkoincoaaGreatFoundProof -/
import Derived.Deep.RegionHeld3
import Derived.Test.YtcefiamkoincoaaGreatPk02
set_option maxRecDepth 100000
set_option maxHeartbeats 40000000
set_option linter.unusedVariables false
set_option linter.unusedSimpArgs false
namespace Go.Proofs.YtcefiamkoincoaaGreat
open Go.RowKit
theorem Fq {s:ByteArray}{i:Nat} (h:i < s.size):Rf.at' s.data.toList (i:Int)=(s[i].toNat:Int):=by
 have h':i < s.data.toList.length:=by simpa using h
 have e:s.data.toList[i]?.getD 0=s[i]:=by rw [List.getElem?_eq_getElem h'];rfl
 unfold Rf.at';rw [if_neg (by omega),if_neg (by omega),Int.toNat_natCast,e]
theorem Bc (s:ByteArray) (i:Int) (w:World) (_hs:s.size≤maxLen) :
  Calls Tryz.prog 89 #[.string s,.int .i64 i] w fun e w'=>e=.returned (.int .i64 (Rf.at' s.data.toList i))∧w=w':=by
 have hl:s.data.toList.length=s.size:=by simp
 by_cases h0:i < 0
 ·have e:Rf.at' s.data.toList i = -1:=by unfold Rf.at';rw [if_pos h0]
  rw [e];go_enter Tryz.func89,Tryz.ntmps89;go_wp2;go_ret;exact ⟨rfl,rfl⟩
 ·by_cases h1:(s.size:Int)≤i
  ·rw [Rf.at_out (by omega)];go_enter Tryz.func89,Tryz.ntmps89;go_wp2;go_ret;exact ⟨rfl,rfl⟩
  ·obtain ⟨k,rfl⟩:=Int.eq_ofNat_of_zero_le (show 0≤i by omega);have hk:k < s.size:=by omega
   rw [Fq hk];go_enter Tryz.func89,Tryz.ntmps89;go_wp2;go_ret;exact ⟨Rn (Np _),rfl⟩
theorem Ao (s:ByteArray) (i least most:Int) (w:World) (hs:s.size≤maxLen) :
  Calls Tryz.prog 90 #[.string s,.int .i64 i,.int .i64 least,.int .i64 most] w fun e w'=>e=.returned (.int .i64 (Rf.cnt s.data.toList i least most))∧w=w':=by
 unfold Rf.cnt;generalize hr:Rf.at' s.data.toList i=r;have HR:=Ac hr;clear hr;by_cases h1:r < least
 ·rw [if_pos h1];go_enter Tryz.func90,Tryz.ntmps90;go_wp2_with (go_at_call 89;refine (Bc s i _ hs).mono ?_;rw [Aa HR];rintro e w1 ⟨rfl,rfl⟩)
  go_ret;exact ⟨rfl,rfl⟩
 ·rw [if_neg h1];by_cases h2:most < r
  ·rw [if_pos h2];go_enter Tryz.func90,Tryz.ntmps90;go_wp2_with (go_at_call 89;refine (Bc s i _ hs).mono ?_;rw [Aa HR];rintro e w1 ⟨rfl,rfl⟩)
   go_ret;exact ⟨rfl,rfl⟩
  ·rw [if_neg h2];go_enter Tryz.func90,Tryz.ntmps90;go_wp2_with (go_at_call 89;refine (Bc s i _ hs).mono ?_;rw [Aa HR];rintro e w1 ⟨rfl,rfl⟩)
   go_ret;exact ⟨rfl,rfl⟩
theorem Br (s:List UInt8) (i:Int) (n:Nat):(Rf.tys s i n).length=n:=by
 induction n with
 | zero=>rfl
 | succ k ih=>simp [Rf.tys,ih]
theorem Bh (s:ByteArray) (i n:Int) (w:World) (hs:s.size≤maxLen) (hi0:0≤i) (hi1:i≤1000000) (hn0:0≤n) (hn1:n≤255) :
  Calls Tryz.prog 134 #[.string s,.int .i64 i,.int .i64 n] w fun e w' =>
   ∃ a c,e=.returned (.slice a n.toNat c)∧TysAt w' w.heap.size (.slice a n.toNat c) (Rf.tys s.data.toList i n.toNat)∧Below w.heap.size w w':=by
 obtain ⟨i0,hi,hz0,hz1,hz2⟩:=info_parts Tryz.infoType;go_enter Tryz.func134,Tryz.ntmps134;go_wp2
 go_loopw [7,8] (fun v j wr=>∃ k:Nat,(k:Int)≤n∧j=.int .i64 k∧wr.ownsRow w.heap.size 39 2 v k (Al (Rf.tys s.data.toList i k))∧Below w.heap.size w wr)
  (fun _ j _=>n.toNat - (intOf j).toNat)
 case atStart=>exact ⟨0,by omega,rfl,World.ownsRow_nil _ _ _ _,Below.refl _ _⟩
 case round =>
  obtain ⟨k,hk,rfl,hown,hbl⟩:=hrel;have hsz:=hbl.size;by_cases hkn:(k:Int) < n
  ·generalize hp:Rf.tys s.data.toList i k=p at *;generalize ha:Rf.at' s.data.toList (i+2 * (k:Int))=x at *;generalize hb:Rf.at' s.data.toList (i+2 * (k:Int)+1)=y at *;have HE:Hid (Rf.tys s.data.toList i (k+1)=p ++ [(x,y)]):=by unfold Hid;rw [Rf.tys,hp,ha,hb]
   have HA:=Ac ha;have HB:=Ac hb;clear hp ha hb;go_wp2_with fail
   refine (Bc s (i+2 * (k:Int)) _ hs).mono ?_;rw [Aa HA];rintro e w1 ⟨rfl,rfl⟩;go_wp2_with fail
   refine (Bc s (i+2 * (k:Int)+1) _ hs).mono ?_;rw [Aa HB];rintro e w1 ⟨rfl,rfl⟩;go_wp2_with (at_builtin;refine wpList_append_own _ rfl _ _ 48 rfl w.heap.size 39 i0 _ 2 16 Tryz.underlying48 hi hz0 hz1 hz2 rfl (by decide) _ _ _ rfl (hown.alloc _) ⟨wr.heap.size,0,none⟩ 1 1 [.int .i64 x,.int .i64 y] rfl rfl ?c1 ?c2 ?c3 ?c4 ?c5 ?_)
   case c1=>exact Az _ _ _ _ rfl
   case c2=>intro u hu;simp at hu;rcases hu with rfl | rfl <;> rfl
   case c3=>unfold maxLen;omega
   case c4=>omega
   case c5=>simp;omega
   intro v' w2 hown2 hgrow _;have hown3:w2.ownsRow w.heap.size 39 2 v' (k+1) (Al (Rf.tys s.data.toList i (k+1))):=by
    rw [Aa HE,Jw];exact hown2
   have hbl2:=(hbl.alloc hsz (.cells #[.int .i64 x,.int .i64 y] 39)).grown hgrow (by simp;omega) (fun j hj=>(hown.lt j hj).1);clear hgrow hown hown2 hbl;go_wp2
   go_roundw
   case rel=>exact ⟨k+1,by omega,by go_num,hown3,hbl2⟩
   case measure=>simp [intOf];omega
  ·obtain rfl:k=n.toNat:=by omega
   obtain ⟨va,vc,rfl⟩:=Ae hown;go_wp2;go_ret;refine ⟨_,_,rfl,?_,hbl⟩;unfold TysAt;rw [Br];exact hown
theorem Lq (s:ByteArray) (i:Int) (w:World) (hs:s.size≤maxLen) (hi0:0≤i) (hi1:i≤100000) :
  Calls Tryz.prog 91 #[.string s,.int .i64 i] w fun e w' =>
   ∃ x a n c,e=.returned (.tuple #[.agg #[.int .i64 x,.slice a n c],.int .i64 (Rf.cls s.data.toList i).2]) ∧
    (0≤(Rf.cls s.data.toList i).2→x=(Rf.cls s.data.toList i).1.above∧TysAt w' w.heap.size (.slice a n c) (Rf.cls s.data.toList i).1.fields)∧Below w.heap.size w w':=by
 unfold Rf.cls;generalize hr:Rf.cnt s.data.toList (i+1) 0 4=r;have hb:=Rf.cnt_bd s.data.toList (i+1) 0 4 (by omega);rw [hr] at hb;obtain ⟨hb0,hb1⟩:=hb;have HR:=Ac hr;clear hr;by_cases h0:r < 0
 ·rw [if_pos h0];go_enter Tryz.func91,Tryz.ntmps91;go_wp2_with fail
  refine (Ao s (i+1) 0 4 _ hs).mono ?_;rw [Aa HR];rintro e w1 ⟨rfl,rfl⟩;go_wp2_with fail
  refine bodyPost_ret (v:=.tuple #[.agg #[.int .i64 0,.slice none 0 0],.int .i64 (-1)]) (by simp [results,Tryz.results91,go_sem]) rfl ?_;exact ⟨0,none,0,0,rfl,fun h=>absurd h (by decide),(Below.refl _ _).alloc (Nat.le_refl _) _⟩
 ·rw [if_neg h0];generalize hx:Rf.at' s.data.toList i=x;have HX:=Ac hx;clear hx;go_enter Tryz.func91,Tryz.ntmps91;go_wp2_with fail
  refine (Ao s (i+1) 0 4 _ hs).mono ?_;rw [Aa HR];rintro e w1 ⟨rfl,rfl⟩;go_wp2_with fail
  refine (Bc s i _ hs).mono ?_;rw [Aa HX];rintro e w1 ⟨rfl,rfl⟩;go_wp2_with fail
  refine (Bh s (i+2) r _ hs (by omega) (by omega) (by omega) (by omega)).mono ?_;rintro e w1 ⟨a,c,rfl,ht,hb1⟩;have hC:=(hb1.block w.heap.size (by simp)).trans (Ad w _);obtain ⟨y0,y1⟩:=cl2 hC;obtain ⟨f0,f1⟩:=fr2 hC;simp at y0 y1;have hB:Below w.heap.size w w1:=((Below.refl _ _).alloc (Nat.le_refl _) _).trans (hb1.mono (by simp));go_wp2_with fail
  refine bodyPost_ret (v:=.tuple #[.agg #[.int .i64 x,.slice a r.toNat c],.int .i64 (i+2+2 * r)]) (by simp [results,Tryz.results91,go_sem,y0,y1]) rfl ?_;refine ⟨_,_,_,_,rfl,fun _=>⟨rfl,?_⟩,(hB.setCell (by simp) _).setCell (by simp) _⟩;exact A8 (ownsRow_setCell_below (ownsRow_setCell_below ht (by simp) _) (by simp) _) (by simp)
theorem Tryz.infoRMap:(Tryz.prog.info? 82).map (fun i=>(i.zero,i.size,i.bytes))=some (some (.agg #[.int .i64 0,.slice none 0 0,.slice none 0 0]),3,56):=by kernel_rfl
theorem Ku {α:Type}{f:Int→α × Int}{k:Nat}{i:Int} (h0:0≤(Rf.rep f k i).2) (h:(f (Rf.rep f k i).2).2 < 0) (m:Nat) (hm:k < m):(Rf.rep f m i)=([],-1):=by
 have h1:Rf.rep f (k+1) i=([],-1):=by
  unfold Rf.rep;rw [if_neg (by omega),if_pos h]
 have:∀ n,Rf.rep f (k+1+n) i=([],-1):=by
  intro n
  induction n with
  | zero=>exact h1
  | succ j ih =>
   rw [show k+1+(j+1)=(k+1+j)+1 by omega];unfold Rf.rep;rw [ih,if_pos (by simp)]
 obtain ⟨n,rfl⟩:∃ n,m=k+1+n:=⟨m - (k+1),by omega⟩;exact this n
theorem Yu {s:List UInt8}{L H i:Int} (h:0≤(Rf.mp s L H i).2) (hH:H≤8) (hL:L≤8) (hL0:0≤L):(Rf.mp s L H i).2≤i+34∧i≤(Rf.mp s L H i).2:=by
 unfold Rf.mp at h ⊢
 split
 ·rename_i c;rw [if_pos c] at h;simp at h
 ·rename_i c;by_cases hh:-1≤H
  ·have:=Rf.cnt_bd s (i+1+2 * L) 0 H hh;simp only;omega
  ·exfalso
   unfold Rf.cnt at c;have:=Rf.at_bd s (i+1+2 * L)
   split at c
   ·omega
   ·split at c <;> omega
theorem Vj (s:ByteArray) (i L H:Int) (w:World) (hs:s.size≤maxLen) (hi0:0≤i) (hi1:i≤100000) (hL0:0≤L) (hL1:L≤8) (hH0:0≤H) (hH1:H≤8) :
  Calls Tryz.prog 136 #[.string s,.int .i64 i,.int .i64 L,.int .i64 H] w fun e w' =>
   ∃ a n c l,e=.returned (.tuple #[.slice a n c,.int .i64 (Rf.mps s.data.toList i L H).2])∧l.map Prod.fst=(Rf.mps s.data.toList i L H).1∧RMpsIn w' w.heap.size (.slice a n c) l∧Below w.heap.size w w':=by
 obtain ⟨i0,hi,hz0,hz1,hz2⟩:=info_parts Tryz.infoRMap;unfold Rf.mps;generalize hr:Rf.cnt s.data.toList i 0 64=r;have hb:=Rf.cnt_bd s.data.toList i 0 64 (by omega);rw [hr] at hb;obtain ⟨hb0,hb1⟩:=hb;have HR:=Ac hr;clear hr;by_cases h0:r < 0
 ·rw [if_pos h0];go_enter Tryz.func136,Tryz.ntmps136;go_wp2_with fail
  refine (Ao s i 0 64 _ hs).mono ?_;rw [Aa HR];rintro e w1 ⟨rfl,rfl⟩;go_wp2;go_ret2;exact ⟨none,0,0,[],rfl,rfl,⟨World.ownsRow_nil _ _ _ _,by simp⟩,Below.refl _ _⟩
 ·rw [if_neg h0];generalize hz:Rf.rep (Rf.mp s.data.toList L H) r.toNat (i+1)=z;have HZ:=Ac hz;clear hz;go_enter Tryz.func136,Tryz.ntmps136;go_wp2_with fail
  refine (Ao s i 0 64 _ hs).mono ?_;rw [Aa HR];rintro e w1 ⟨rfl,rfl⟩;go_wp2
  go_loopw [1,11,12] (fun p v j wr=>∃ (k:Nat) (q:Int) (l:List (Rd.Mp × Value × Value)),(k:Int)≤r∧j=.int .i64 k∧p=.int .i64 q∧l.length=k∧0≤q∧q≤i+1+34 * (k:Int)∧Hid (Rf.rep (Rf.mp s.data.toList L H) k (i+1)=(l.map Prod.fst,q)) ∧
    RMpsIn wr w.heap.size v l∧Below w.heap.size w wr)
   (fun _ _ j _=>r.toNat - (intOf j).toNat)
  case atStart=>exact ⟨0,_,[],by omega,rfl,rfl,rfl,by omega,by omega,rfl,⟨World.ownsRow_nil _ _ _ _,by simp⟩,Below.refl _ _⟩
  case round =>
   obtain ⟨k,q,l,hk,rfl,rfl,hlen,hq0,hq1,HQ,hms,hbl⟩:=hrel;have hsz:=hbl.size;by_cases hkn:(k:Int) < r
   ·generalize hx:Rf.at' s.data.toList q=x;generalize hh:Rf.cnt s.data.toList (q+1+2 * L) 0 H=h;have hbh:=Rf.cnt_bd s.data.toList (q+1+2 * L) 0 H (by omega);rw [hh] at hbh;obtain ⟨hh0,hh1⟩:=hbh;by_cases hneg:h < 0
    ·have hz:z=([],-1):=by
      rw [← Aa HZ];refine Ku (k:=k) ?_ ?_ _ (by omega)
      ·rw [Aa HQ];exact hq0
      ·rw [Aa HQ];unfold Rf.mp;rw [hh,if_pos hneg]
       decide
     have HZ2:=Ac hz;have HX:=Ac hx;have HH:=Ac hh;clear hz hx hh hlen;go_wp2_with fail
     refine (Bc s q _ hs).mono ?_;rw [Aa HX];rintro e w1 ⟨rfl,rfl⟩;go_wp2_with fail
     refine (Ao s (q+1+2 * L) 0 H _ hs).mono ?_;rw [Aa HH];rintro e w1 ⟨rfl,rfl⟩;go_wp2;go_ret2;exact ⟨none,0,0,[],by rw [Aa HZ2];rfl,by rw [Aa HZ2];rfl,⟨World.ownsRow_nil _ _ _ _,by simp⟩,hbl⟩
    ·generalize hq2:Rf.tys s.data.toList (q+1) L.toNat=q2;generalize hq4:Rf.tys s.data.toList (q+2+2 * L) h.toNat=q4;have hmp:Rf.mp s.data.toList L H q=(⟨x,q2,q4⟩,q+2+2 * L+2 * h):=by
      unfold Rf.mp;rw [hh,if_neg hneg,hx,hq2,hq4]
     have HE:Hid (Rf.rep (Rf.mp s.data.toList L H) (k+1) (i+1)=(l.map Prod.fst ++ [⟨x,q2,q4⟩],q+2+2 * L+2 * h)):=Rf.rep_step (Aa HQ) hq0 hmp (by omega);have HX:=Ac hx;have HH:=Ac hh;have HQ2:=Ac hq2;have HQ4:=Ac hq4;have HLen:=Ac hlen;clear hx hh hq2 hq4 hmp hlen;go_wp2_with fail
     refine (Bc s q _ hs).mono ?_;rw [Aa HX];rintro e w1 ⟨rfl,rfl⟩;go_wp2_with fail
     refine (Ao s (q+1+2 * L) 0 H _ hs).mono ?_;rw [Aa HH];rintro e w1 ⟨rfl,rfl⟩;go_wp2_with fail
     refine (Bh s (q+1) L _ hs (by omega) (by omega) hL0 (by omega)).mono ?_;rw [Aa HQ2];rintro e w1 ⟨a1,c1,rfl,ht1,hb1⟩;have hB1:=hbl.trans (hb1.mono hsz);have hs1:=hB1.size;go_wp2_with fail
     refine (Bh s (q+2+2 * L) h _ hs (by omega) (by omega) (by omega) (by omega)).mono ?_;rw [Aa HQ4];rintro e w2 ⟨a2,c2,rfl,ht2,hb2⟩;have hB2:=hB1.trans (hb2.mono hs1);have hs2:=hB2.size;have T1:=(ht1.mono hsz).kp (Kp.of_below (e:=none) hb2) (by decide);have T2:=ht2.mono hs1;have hms2:=(hms.kp (Kp.of_below (e:=none) hb1) (by decide) (by decide)).kp (Kp.of_below (e:=none) hb2) (by decide) (by decide);have HMs:=Ac hms2.2;have hown:=hms2.1;clear ht1 ht2 hms hms2 hbl hB1 hb1 hb2;go_wp2_with (at_builtin;refine wpList_append_own _ rfl _ _ 50 rfl w.heap.size 82 i0 _ 3 56 Tryz.underlying50 hi hz0 hz1 hz2 rfl (by decide) _ _ _ rfl (hown.alloc _) ⟨w2.heap.size,0,none⟩ 1 1 [.int .i64 x,.slice a1 L.toNat c1,.slice a2 h.toNat c2] rfl rfl ?c1 ?c2 ?c3 ?c4 ?c5 ?_)
     case c1=>exact Az _ _ _ _ rfl
     case c2=>intro u hu;simp at hu;rcases hu with rfl | rfl | rfl <;> rfl
     case c3=>have:=Aa HLen;unfold maxLen;omega
     case c4=>have:=Aa HLen;omega
     case c5=>simp;omega
     intro v' w3 hown2 hgrow _;have hbl3:=(hB2.alloc hs2 (.cells #[.int .i64 x,.slice a1 L.toNat c1,.slice a2 h.toNat c2] 82)).grown hgrow (by simp;omega) (fun j hj=>(hown.lt j hj).1);have hK:=(Kp.alloc (e:=some 82) (b:=w.heap.size) _ _).trans (Kp.of_grown hgrow (hown.alloc _));have hms3:RMpsIn w3 w.heap.size v' (l ++ [(⟨x,q2,q4⟩,.slice a1 L.toNat c1,.slice a2 h.toNat c2)]):=by
      refine ⟨?_,?_⟩
      ·rw [Hi,List.length_append];exact hown2
      ·intro p hp;rw [List.mem_append] at hp;rcases hp with hp | hp
       ·exact ⟨(Aa HMs p hp).1.kp hK (by decide),(Aa HMs p hp).2.kp hK (by decide)⟩
       ·simp only [List.mem_singleton] at hp;subst hp;exact ⟨T1.kp hK (by decide),T2.kp hK (by decide)⟩
     clear hgrow hown hown2 hK T1 T2 hB2;go_wp2
     go_roundw
     case rel=>exact ⟨k+1,_,_,by omega,by go_num,rfl,by rw [List.length_append,Aa HLen];rfl,by omega,by omega,by unfold Hid;rw [Aa HE,List.map_append];rfl,hms3,hbl3⟩
     case measure=>simp [intOf];omega
   ·obtain rfl:k=r.toNat:=by omega
    have hz:z=(l.map Prod.fst,q):=by rw [← Aa HZ];exact Aa HQ
    have HZ2:=Ac hz;clear hz hlen;obtain ⟨va,vc,rfl⟩:=Ae hms.1;go_wp2;go_ret2;exact ⟨_,_,_,by rw [Aa HZ2];rfl,l,by rw [Aa HZ2],hms,hbl⟩
theorem Ll {P:Program}{ops:Array Oper}{o:Oper}{a:Act}{w:World}{K:Act→World→Prop}{Q:Exit→Act→World→Prop}{E:Prop}
  (hg:o.guard=none) (s x:Operand) (t:TypeId) (hop:o.op=Op.call { callee:=Callee.builtin Builtin.append,args:=#[s,x],argTypes:=#[t,t] })
  (base:Nat) (e:TypeId) (i:TypeInfo) (z:Value) (size bytes:Nat) (h1:P.underlying t=some (.slice e)) (h2:P.info? e=some i) (h3:i.zero=some z) (h4:i.size=size) (h5:i.bytes=bytes) (h6:z.cells.size=size) (h7:0 < size)
  (v:Value) (n:Nat) (xs:List Value) (hs:a.eval s=v) (hown:w.ownsRow base e size v n xs)
  (ad:Addr) (m c:Nat) (news:List Value) (hx:a.eval x=.slice (some ad) m c) (hn:news.length=m * size) (hc:∀ j u,news[j]?=some u→w.cell? (ad.add j)=some u) (h1c:∀ u∈news,u.oneCell'=true)
  (b1:n+m≤maxLen) (b2:(n+m) * bytes≤140737488355328) (b3:base≤w.heap.size)
  (hK:∀ v' w',w'.ownsRow base e size v' (n+m) (xs ++ news)→w.grownBy w' v.ownBlock→K (a.put o.dst v') w') :
  if Region.wanted o (yielded ops a.tmps)=true then Oper.wp P o a w K Q else E:=by
 have hw:Region.wanted o (yielded ops a.tmps)=true:=by simp [Region.wanted,hg]
 rw [if_pos hw];obtain ⟨v',w',hrun,r1,r2,_⟩:=run_append_own (P:=P) w base t o.type e i z size bytes h1 h2 h3 h4 h5 h6 h7 v n xs hown ad m c news hn hc h1c b1 b2 b3;unfold Oper.wp;simp [execOp,hop,resolve,invoke,builtin,hs,hx,hrun,Result.andThen];exact hK v' w' r1 r2
theorem Tryz.infoRHandler:(Tryz.prog.info? 116).map (fun i=>(i.zero,i.size,i.bytes))=some (some (.agg #[.int .i64 0,.int .i64 0,.int .i64 0,.int .i64 0]),4,32):=by kernel_rfl
theorem Ja (s:List UInt8) (i:Int) (n:Nat):(Rf.hndTo s i n).length=n:=by
 induction n with
 | zero=>rfl
 | succ k ih=>simp [Rf.hndTo,ih]
theorem Eg (n:Int) (h0:-9223372036854775808≤n) (h1:n≤9223372036854775807):IntKind.i64.wrap n=n:=by
 rw [Go.IntWalk.i64_left,Go.IntWalk.wrap64_in _ ⟨h0,h1⟩]
theorem M7 (s:ByteArray) (i:Int) (w:World) (hs:s.size≤maxLen) (hi0:0≤i) (hi1:i≤100000) :
  Calls Tryz.prog 135 #[.string s,.int .i64 i] w fun e w' =>
   ∃ a n c,e=.returned (.tuple #[.slice a n c,.int .i64 (Rf.hnds s.data.toList i).2])∧RHndsAt w' w.heap.size (.slice a n c) (Rf.hnds s.data.toList i).1∧Below w.heap.size w w':=by
 obtain ⟨i0,hi,hz0,hz1,hz2⟩:=info_parts Tryz.infoRHandler;have hlen:s.data.toList.length=s.size:=by simp
 unfold Rf.hnds;rw [hlen];generalize hr:Rf.cnt s.data.toList i 0 4=r;have hb:=Rf.cnt_bd s.data.toList i 0 4 (by omega);rw [hr] at hb;obtain ⟨hb0,hb1⟩:=hb;have HR:=Ac hr;clear hr;by_cases h0:r < 0
 ·rw [if_pos h0];go_enter Tryz.func135,Tryz.ntmps135;go_wp2_with fail
  refine (Ao s i 0 4 _ hs).mono ?_;rw [Aa HR];rintro e w1 ⟨rfl,rfl⟩;go_wp2;go_ret2;exact ⟨none,0,0,rfl,World.ownsRow_nil _ _ _ _,Below.refl _ _⟩
 ·rw [if_neg h0];by_cases h1:(s.size:Int) < i+1+4 * r
  ·rw [if_pos h1];go_enter Tryz.func135,Tryz.ntmps135;go_wp2_with fail
   refine (Ao s i 0 4 _ hs).mono ?_;rw [Aa HR];rintro e w1 ⟨rfl,rfl⟩;go_wp2;go_ret2;exact ⟨none,0,0,rfl,World.ownsRow_nil _ _ _ _,Below.refl _ _⟩
  ·rw [if_neg h1];unfold RHndsAt;dsimp only;rw [Ja];have d0:decide (r < 0)=false:=by simp;omega
   have d1:decide ((s.size:Int) < i+1+4 * r)=false:=by simp;omega
   go_enter Tryz.func135,Tryz.ntmps135;go_wp2_with fail
   refine (Ao s i 0 4 _ hs).mono ?_;rw [Aa HR];rintro e w1 ⟨rfl,rfl⟩;go_wp2
   go_loopw [7,8] (fun v j wr=>∃ k:Nat,(k:Int)≤r∧j=.int .i64 k∧wr.ownsRow w.heap.size 116 4 v k (Bb (Rf.hndTo s.data.toList i k))∧Below w.heap.size w wr)
    (fun _ j _=>r.toNat - (intOf j).toNat)
   case atStart=>exact ⟨0,by omega,rfl,World.ownsRow_nil _ _ _ _,Below.refl _ _⟩
   case round =>
    obtain ⟨k,hk,rfl,hown,hbl⟩:=hrel;have hsz:=hbl.size;by_cases hkn:(k:Int) < r
    ·obtain ⟨q,hq⟩:=Int.eq_ofNat_of_zero_le (show 0≤i+1+4 * (k:Int) by omega);have q3:q+3 < s.size:=by omega
     have q2:q+2 < s.size:=by omega
     have q1:q+1 < s.size:=by omega
     have q0:q < s.size:=by omega
     have z3:(q:Int)+3 < (s.size:Int):=by omega
     have z2:(q:Int)+2 < (s.size:Int):=by omega
     have z1:(q:Int)+1 < (s.size:Int):=by omega
     have HE:Hid (Bb (Rf.hndTo s.data.toList i (k+1))=Bb (Rf.hndTo s.data.toList i k) ++ [.int .i64 (s[q].toNat:Int),.int .i64 (s[q+1].toNat:Int),.int .i64 (s[q+2].toNat:Int),.int .i64 (s[q+3].toNat:Int)]):=by
      unfold Hid;rw [Rf.hndTo,J7,hq];unfold Rf.hndAt;have a1:Rf.at' s.data.toList ((q:Int)+1)=_:=Fq (i:=q+1) q1;have a2:Rf.at' s.data.toList ((q:Int)+2)=_:=Fq (i:=q+2) q2;have a3:Rf.at' s.data.toList ((q:Int)+3)=_:=Fq (i:=q+3) q3;rw [Fq q0,a1,a2,a3]
     have hw1:IntKind.i64.wrap ((q:Int)+1)=(q:Int)+1:=Eg _ (by omega) (by omega);have hw2:IntKind.i64.wrap ((q:Int)+2)=(q:Int)+2:=Eg _ (by omega) (by omega);have hw3:IntKind.i64.wrap ((q:Int)+3)=(q:Int)+3:=Eg _ (by omega) (by omega);have hwb:∀ c:UInt8,IntKind.i64.wrap (c.toNat:Int)=(c.toNat:Int):=fun c=>Eg _ (by omega) (by have:=c.toNat_lt;omega);have y1:0≤(q:Int)+1:=by omega
     have y2:0≤(q:Int)+2:=by omega
     have y3:0≤(q:Int)+3:=by omega
     have e1:((q:Int)+1).toNat=q+1:=by omega
     have e2:((q:Int)+2).toNat=q+2:=by omega
     have e3:((q:Int)+3).toNat=q+3:=by omega
     go_wp2
     go_region_held3 (fun _=>True) (exact trivial) ((refine Ll (by rfl) _ _ _ (by rfl) w.heap.size 116 i0 _ 4 32 Tryz.underlying49 hi hz0 hz1 hz2 rfl (by omega) _ _ _ (by rfl) ((hown.alloc _).drew) ⟨wr.heap.size,0,none⟩ 1 1 [.int .i64 (s[q].toNat:Int),.int .i64 (s[q+1].toNat:Int),.int .i64 (s[q+2].toNat:Int),.int .i64 (s[q+3].toNat:Int)] (by rfl) (by rfl) (Az wr _ _ _ rfl) (by simp [Value.oneCell']) (by unfold maxLen;omega) (by omega) (by simp;omega) ?_;intro v' w2 hown2 hgrow))
     all_goals
      have hown3:w2.ownsRow w.heap.size 116 4 v' (k+1) (Bb (Rf.hndTo s.data.toList i (k+1))):=by rw [Aa HE];exact hown2
      have hbl2:=((hbl.alloc hsz _).drew).grown hgrow (by simp;omega) (fun j hj=>(hown.lt j hj).1);clear hgrow hown2;go_wp2
      go_roundw
      case rel=>exact ⟨k+1,by omega,by go_num,hown3,hbl2⟩
      case measure=>simp [intOf];omega
    ·obtain rfl:k=r.toNat:=by omega
     obtain ⟨va,vc,rfl⟩:=Ae hown;go_wp2;go_ret2;exact ⟨_,_,_,rfl,hown,hbl⟩
theorem Xe (s:ByteArray) (i p:Int) (w:World) (hs:s.size≤maxLen) (hi0:0≤i) (hi1:i≤50000) (HP:Hid (Rf.cnt s.data.toList (i+2) 0 4=p)) (h:p < 0) :
  Calls Tryz.prog 92 #[.string s,.int .i64 i] w fun e w' =>
   ∃ x0 x1 a2 n2 c2 x3 x4 x5 x6 sb a8 n8 c8 a9 n9 c9 x10 x11,e=.returned (.tuple #[.agg #[.int .i64 x0,.int .i64 x1,.slice a2 n2 c2,.int .i64 x3,.int .i64 x4,.int .i64 x5,.int .i64 x6,.string sb,.slice a8 n8 c8,.slice a9 n9 c9,.int .i64 x10,.int .i64 x11],.int .i64 (-1)])∧Below w.heap.size w w':=by
 have G1:∃ x0 x1,Rf.at' s.data.toList i=x0∧Rf.at' s.data.toList (i+1)=x1:=⟨_,_,rfl,rfl⟩;obtain ⟨x0,x1,hx0,hx1⟩:=G1;have HX0:=Ac hx0;have HX1:=Ac hx1;clear hx0 hx1;go_enter Tryz.func92,Tryz.ntmps92;go_wp2_with fail
 refine (Bc s i _ hs).mono ?_;rw [Aa HX0];rintro e w0 ⟨rfl,rfl⟩;go_wp2_with fail
 refine (Bc s (i+1) _ hs).mono ?_;rw [Aa HX1];rintro e w0 ⟨rfl,rfl⟩;go_wp2_with fail
 refine (Ao s (i+2) 0 4 _ hs).mono ?_;rw [Aa HP];rintro e w0 ⟨rfl,rfl⟩;go_wp2_with fail
 refine bodyPost_ret (v:=.tuple #[.agg #[.int .i64 x0,.int .i64 x1,.slice none 0 0,.int .i64 0,.int .i64 0,.int .i64 0,.int .i64 0,.string ⟨#[]⟩,.slice none 0 0,.slice none 0 0,.int .i64 0,.int .i64 0],.int .i64 (-1)]) (by simp [results,Tryz.results92,go_sem]) rfl ?_;exact ⟨x0,x1,_,_,_,_,_,_,_,_,_,_,_,_,_,_,_,_,rfl,((Below.refl _ _).alloc (Nat.le_refl _) _).alloc (by simp) _⟩
theorem Xk (s:ByteArray) (i p l h n:Int) (w:World) (hs:s.size≤maxLen) (hi0:0≤i) (hi1:i≤50000) (HP:Hid (Rf.cnt s.data.toList (i+2) 0 4=p)) (HL:Hid (Rf.cnt s.data.toList (i+3+2 * p+2) 0 8=l)) (HH:Hid (Rf.cnt s.data.toList (i+3+2 * p+3) 0 8=h)) (HN:Hid (Rf.cnt s.data.toList (i+3+2 * p+4) 1 120=n)) (hp0:0≤p) (hp1:p≤4) (hneg:l < 0) :
  Calls Tryz.prog 92 #[.string s,.int .i64 i] w fun e w' =>
   ∃ x0 x1 a2 n2 c2 x3 x4 x5 x6 sb a8 n8 c8 a9 n9 c9 x10 x11,e=.returned (.tuple #[.agg #[.int .i64 x0,.int .i64 x1,.slice a2 n2 c2,.int .i64 x3,.int .i64 x4,.int .i64 x5,.int .i64 x6,.string sb,.slice a8 n8 c8,.slice a9 n9 c9,.int .i64 x10,.int .i64 x11],.int .i64 (-1)])∧Below w.heap.size w w':=by
 have G1:∃ x0 x1 ps y1 y2,Rf.at' s.data.toList i=x0∧Rf.at' s.data.toList (i+1)=x1∧Rf.tys s.data.toList (i+3) p.toNat=ps∧Rf.at' s.data.toList (i+3+2 * p)=y1∧Rf.at' s.data.toList (i+3+2 * p+1)=y2:=⟨_,_,_,_,_,rfl,rfl,rfl,rfl,rfl⟩;obtain ⟨x0,x1,ps,y1,y2,hx0,hx1,hps,hr1,hr2⟩:=G1;have HX0:=Ac hx0;have HX1:=Ac hx1;have HPS:=Ac hps;have HR1:=Ac hr1;have HR2:=Ac hr2;clear hx0 hx1 hps hr1 hr2;go_enter Tryz.func92,Tryz.ntmps92;go_wp2_with fail
 refine (Bc s i _ hs).mono ?_;rw [Aa HX0];rintro e w0 ⟨rfl,rfl⟩;go_wp2_with fail
 refine (Bc s (i+1) _ hs).mono ?_;rw [Aa HX1];rintro e w0 ⟨rfl,rfl⟩;go_wp2_with fail
 refine (Ao s (i+2) 0 4 _ hs).mono ?_;rw [Aa HP];rintro e w0 ⟨rfl,rfl⟩;go_wp2_with fail
 refine (Bh s (i+3) p _ hs (by omega) (by omega) (by omega) (by omega)).mono ?_;rw [Aa HPS];rintro e w1 ⟨a2,c2,rfl,T1,b1⟩;have B1:=stay b1 (Ah w _ _);have C1:=stay b1 (Ak w _ _);have hB1:=(Aj w _ _).trans (b1.mono (by simp;omega));have s1:=hB1.size;have k2:=Ab B1 2;have f2:=Ag B1 2;simp at k2;go_wp2_with fail
 clear k2 f2;refine (Bh s (i+3+2 * p) 1 _ hs (by omega) (by omega) (by omega) (by omega)).mono ?_;rintro e w2 ⟨ar,cr,rfl,TR,b2⟩;have B2:=stay b2 (Ai (i:=2) B1 (.slice a2 p.toNat c2));have C2:=stay b2 (As C1 (p:=⟨w.heap.size+1,2,none⟩) (by simp) (.slice a2 p.toNat c2));simp at B2;have hB2:=(hB1.setCell (p:=⟨w.heap.size+1,2,none⟩) (by simp) (.slice a2 p.toNat c2)).trans (b2.mono (by simp;omega));have T2:=((T1.mono (b':=w.heap.size) (by simp;omega)).kp (Kp.set (i:=2) B1 (.slice a2 p.toNat c2)) (by decide)).kp (Kp.of_below (e:=none) b2) (by decide);have s2:=hB2.size;obtain ⟨gr,har,hgr,hgr2,hcr⟩:=Am TR (by rw [Br];decide);have r0:=hcr 0 (by simp [Al,Rf.tys]);have r1:=hcr 1 (by simp [Al,Rf.tys]);simp [Al,Rf.tys] at r0 r1;rw [Aa HR1] at r0;rw [Aa HR2] at r1;have hgne:gr ≠ w.heap.size+1:=by
  have hh:=lt_of_block B1;simp at hgr2;omega
 clear hcr T1 b1 b2 B1 C1 hB1 TR hgr2;subst har;obtain ⟨k0,k1,k2,k3,k4,k5,k6,k7,k8,k9,k10,k11⟩:=Ax B2;obtain ⟨f0,f1,f2,f3,f4,f5,f6,f7,f8,f9,f10,f11⟩:=Dj B2;obtain ⟨z0,z1,z2,z3,z4,z5,z6,z7,z8,z9,z10,z11⟩:=Ax C2;obtain ⟨g0,g1,g2,g3,g4,g5,g6,g7,g8,g9,g10,g11⟩:=Dj C2;simp at k0 k1 k2 k3 k4 k5 k6 k7 k8 k9 k10 k11 z0 z1 z2 z3 z4 z5 z6 z7 z8 z9 z10 z11;go_wp2_with fail
 refine (Ao s (i+3+2 * p+2) 0 8 _ hs).mono ?_;rw [Aa HL];rintro e w0 ⟨rfl,rfl⟩;go_wp2_with fail
 refine (Ao s (i+3+2 * p+3) 0 8 _ hs).mono ?_;rw [Aa HH];rintro e w0 ⟨rfl,rfl⟩;go_wp2_with fail
 refine (Ao s (i+3+2 * p+4) 1 120 _ hs).mono ?_;rw [Aa HN];rintro e w0 ⟨rfl,rfl⟩;go_wp2_with fail
 refine bodyPost_ret (v:=.tuple #[.agg #[.int .i64 x0,.int .i64 x1,.slice a2 p.toNat c2,.int .i64 y1,.int .i64 y2,.int .i64 l,.int .i64 h,.string ⟨#[]⟩,.slice none 0 0,.slice none 0 0,.int .i64 0,.int .i64 0],.int .i64 (-1)]) (by simp [results,Tryz.results92,go_sem,z0,z1,z2,z3,z4,z5,z6,z7,z8,z9,z10,z11]) rfl ?_;exact ⟨_,_,_,_,_,_,_,_,_,_,_,_,_,_,_,_,_,_,rfl,by repeat (first | refine Below.setCell ?_ (by simp) _ | exact hB2)⟩
theorem X9 (s:ByteArray) (i p l h n:Int) (w:World) (hs:s.size≤maxLen) (hi0:0≤i) (hi1:i≤50000) (HP:Hid (Rf.cnt s.data.toList (i+2) 0 4=p)) (HL:Hid (Rf.cnt s.data.toList (i+3+2 * p+2) 0 8=l)) (HH:Hid (Rf.cnt s.data.toList (i+3+2 * p+3) 0 8=h)) (HN:Hid (Rf.cnt s.data.toList (i+3+2 * p+4) 1 120=n)) (hp0:0≤p) (hp1:p≤4) (hl0:0≤l) (hneg:h < 0) :
  Calls Tryz.prog 92 #[.string s,.int .i64 i] w fun e w' =>
   ∃ x0 x1 a2 n2 c2 x3 x4 x5 x6 sb a8 n8 c8 a9 n9 c9 x10 x11,e=.returned (.tuple #[.agg #[.int .i64 x0,.int .i64 x1,.slice a2 n2 c2,.int .i64 x3,.int .i64 x4,.int .i64 x5,.int .i64 x6,.string sb,.slice a8 n8 c8,.slice a9 n9 c9,.int .i64 x10,.int .i64 x11],.int .i64 (-1)])∧Below w.heap.size w w':=by
 have G1:∃ x0 x1 ps y1 y2,Rf.at' s.data.toList i=x0∧Rf.at' s.data.toList (i+1)=x1∧Rf.tys s.data.toList (i+3) p.toNat=ps∧Rf.at' s.data.toList (i+3+2 * p)=y1∧Rf.at' s.data.toList (i+3+2 * p+1)=y2:=⟨_,_,_,_,_,rfl,rfl,rfl,rfl,rfl⟩;obtain ⟨x0,x1,ps,y1,y2,hx0,hx1,hps,hr1,hr2⟩:=G1;have HX0:=Ac hx0;have HX1:=Ac hx1;have HPS:=Ac hps;have HR1:=Ac hr1;have HR2:=Ac hr2;clear hx0 hx1 hps hr1 hr2;go_enter Tryz.func92,Tryz.ntmps92;go_wp2_with fail
 refine (Bc s i _ hs).mono ?_;rw [Aa HX0];rintro e w0 ⟨rfl,rfl⟩;go_wp2_with fail
 refine (Bc s (i+1) _ hs).mono ?_;rw [Aa HX1];rintro e w0 ⟨rfl,rfl⟩;go_wp2_with fail
 refine (Ao s (i+2) 0 4 _ hs).mono ?_;rw [Aa HP];rintro e w0 ⟨rfl,rfl⟩;go_wp2_with fail
 refine (Bh s (i+3) p _ hs (by omega) (by omega) (by omega) (by omega)).mono ?_;rw [Aa HPS];rintro e w1 ⟨a2,c2,rfl,T1,b1⟩;have B1:=stay b1 (Ah w _ _);have C1:=stay b1 (Ak w _ _);have hB1:=(Aj w _ _).trans (b1.mono (by simp;omega));have s1:=hB1.size;have k2:=Ab B1 2;have f2:=Ag B1 2;simp at k2;go_wp2_with fail
 clear k2 f2;refine (Bh s (i+3+2 * p) 1 _ hs (by omega) (by omega) (by omega) (by omega)).mono ?_;rintro e w2 ⟨ar,cr,rfl,TR,b2⟩;have B2:=stay b2 (Ai (i:=2) B1 (.slice a2 p.toNat c2));have C2:=stay b2 (As C1 (p:=⟨w.heap.size+1,2,none⟩) (by simp) (.slice a2 p.toNat c2));simp at B2;have hB2:=(hB1.setCell (p:=⟨w.heap.size+1,2,none⟩) (by simp) (.slice a2 p.toNat c2)).trans (b2.mono (by simp;omega));have T2:=((T1.mono (b':=w.heap.size) (by simp;omega)).kp (Kp.set (i:=2) B1 (.slice a2 p.toNat c2)) (by decide)).kp (Kp.of_below (e:=none) b2) (by decide);have s2:=hB2.size;obtain ⟨gr,har,hgr,hgr2,hcr⟩:=Am TR (by rw [Br];decide);have r0:=hcr 0 (by simp [Al,Rf.tys]);have r1:=hcr 1 (by simp [Al,Rf.tys]);simp [Al,Rf.tys] at r0 r1;rw [Aa HR1] at r0;rw [Aa HR2] at r1;have hgne:gr ≠ w.heap.size+1:=by
  have hh:=lt_of_block B1;simp at hgr2;omega
 clear hcr T1 b1 b2 B1 C1 hB1 TR hgr2;subst har;obtain ⟨k0,k1,k2,k3,k4,k5,k6,k7,k8,k9,k10,k11⟩:=Ax B2;obtain ⟨f0,f1,f2,f3,f4,f5,f6,f7,f8,f9,f10,f11⟩:=Dj B2;obtain ⟨z0,z1,z2,z3,z4,z5,z6,z7,z8,z9,z10,z11⟩:=Ax C2;obtain ⟨g0,g1,g2,g3,g4,g5,g6,g7,g8,g9,g10,g11⟩:=Dj C2;simp at k0 k1 k2 k3 k4 k5 k6 k7 k8 k9 k10 k11 z0 z1 z2 z3 z4 z5 z6 z7 z8 z9 z10 z11;go_wp2_with fail
 refine (Ao s (i+3+2 * p+2) 0 8 _ hs).mono ?_;rw [Aa HL];rintro e w0 ⟨rfl,rfl⟩;go_wp2_with fail
 refine (Ao s (i+3+2 * p+3) 0 8 _ hs).mono ?_;rw [Aa HH];rintro e w0 ⟨rfl,rfl⟩;go_wp2_with fail
 refine (Ao s (i+3+2 * p+4) 1 120 _ hs).mono ?_;rw [Aa HN];rintro e w0 ⟨rfl,rfl⟩;go_wp2_with fail
 refine bodyPost_ret (v:=.tuple #[.agg #[.int .i64 x0,.int .i64 x1,.slice a2 p.toNat c2,.int .i64 y1,.int .i64 y2,.int .i64 l,.int .i64 h,.string ⟨#[]⟩,.slice none 0 0,.slice none 0 0,.int .i64 0,.int .i64 0],.int .i64 (-1)]) (by simp [results,Tryz.results92,go_sem,z0,z1,z2,z3,z4,z5,z6,z7,z8,z9,z10,z11]) rfl ?_;exact ⟨_,_,_,_,_,_,_,_,_,_,_,_,_,_,_,_,_,_,rfl,by repeat (first | refine Below.setCell ?_ (by simp) _ | exact hB2)⟩
theorem Xa (s:ByteArray) (i p l h n:Int) (w:World) (hs:s.size≤maxLen) (hi0:0≤i) (hi1:i≤50000) (HP:Hid (Rf.cnt s.data.toList (i+2) 0 4=p)) (HL:Hid (Rf.cnt s.data.toList (i+3+2 * p+2) 0 8=l)) (HH:Hid (Rf.cnt s.data.toList (i+3+2 * p+3) 0 8=h)) (HN:Hid (Rf.cnt s.data.toList (i+3+2 * p+4) 1 120=n)) (hp0:0≤p) (hp1:p≤4) (hl0:0≤l) (hh0:0≤h) (hneg:n < 0) :
  Calls Tryz.prog 92 #[.string s,.int .i64 i] w fun e w' =>
   ∃ x0 x1 a2 n2 c2 x3 x4 x5 x6 sb a8 n8 c8 a9 n9 c9 x10 x11,e=.returned (.tuple #[.agg #[.int .i64 x0,.int .i64 x1,.slice a2 n2 c2,.int .i64 x3,.int .i64 x4,.int .i64 x5,.int .i64 x6,.string sb,.slice a8 n8 c8,.slice a9 n9 c9,.int .i64 x10,.int .i64 x11],.int .i64 (-1)])∧Below w.heap.size w w':=by
 have G1:∃ x0 x1 ps y1 y2,Rf.at' s.data.toList i=x0∧Rf.at' s.data.toList (i+1)=x1∧Rf.tys s.data.toList (i+3) p.toNat=ps∧Rf.at' s.data.toList (i+3+2 * p)=y1∧Rf.at' s.data.toList (i+3+2 * p+1)=y2:=⟨_,_,_,_,_,rfl,rfl,rfl,rfl,rfl⟩;obtain ⟨x0,x1,ps,y1,y2,hx0,hx1,hps,hr1,hr2⟩:=G1;have HX0:=Ac hx0;have HX1:=Ac hx1;have HPS:=Ac hps;have HR1:=Ac hr1;have HR2:=Ac hr2;clear hx0 hx1 hps hr1 hr2;go_enter Tryz.func92,Tryz.ntmps92;go_wp2_with fail
 refine (Bc s i _ hs).mono ?_;rw [Aa HX0];rintro e w0 ⟨rfl,rfl⟩;go_wp2_with fail
 refine (Bc s (i+1) _ hs).mono ?_;rw [Aa HX1];rintro e w0 ⟨rfl,rfl⟩;go_wp2_with fail
 refine (Ao s (i+2) 0 4 _ hs).mono ?_;rw [Aa HP];rintro e w0 ⟨rfl,rfl⟩;go_wp2_with fail
 refine (Bh s (i+3) p _ hs (by omega) (by omega) (by omega) (by omega)).mono ?_;rw [Aa HPS];rintro e w1 ⟨a2,c2,rfl,T1,b1⟩;have B1:=stay b1 (Ah w _ _);have C1:=stay b1 (Ak w _ _);have hB1:=(Aj w _ _).trans (b1.mono (by simp;omega));have s1:=hB1.size;have k2:=Ab B1 2;have f2:=Ag B1 2;simp at k2;go_wp2_with fail
 clear k2 f2;refine (Bh s (i+3+2 * p) 1 _ hs (by omega) (by omega) (by omega) (by omega)).mono ?_;rintro e w2 ⟨ar,cr,rfl,TR,b2⟩;have B2:=stay b2 (Ai (i:=2) B1 (.slice a2 p.toNat c2));have C2:=stay b2 (As C1 (p:=⟨w.heap.size+1,2,none⟩) (by simp) (.slice a2 p.toNat c2));simp at B2;have hB2:=(hB1.setCell (p:=⟨w.heap.size+1,2,none⟩) (by simp) (.slice a2 p.toNat c2)).trans (b2.mono (by simp;omega));have T2:=((T1.mono (b':=w.heap.size) (by simp;omega)).kp (Kp.set (i:=2) B1 (.slice a2 p.toNat c2)) (by decide)).kp (Kp.of_below (e:=none) b2) (by decide);have s2:=hB2.size;obtain ⟨gr,har,hgr,hgr2,hcr⟩:=Am TR (by rw [Br];decide);have r0:=hcr 0 (by simp [Al,Rf.tys]);have r1:=hcr 1 (by simp [Al,Rf.tys]);simp [Al,Rf.tys] at r0 r1;rw [Aa HR1] at r0;rw [Aa HR2] at r1;have hgne:gr ≠ w.heap.size+1:=by
  have hh:=lt_of_block B1;simp at hgr2;omega
 clear hcr T1 b1 b2 B1 C1 hB1 TR hgr2;subst har;obtain ⟨k0,k1,k2,k3,k4,k5,k6,k7,k8,k9,k10,k11⟩:=Ax B2;obtain ⟨f0,f1,f2,f3,f4,f5,f6,f7,f8,f9,f10,f11⟩:=Dj B2;obtain ⟨z0,z1,z2,z3,z4,z5,z6,z7,z8,z9,z10,z11⟩:=Ax C2;obtain ⟨g0,g1,g2,g3,g4,g5,g6,g7,g8,g9,g10,g11⟩:=Dj C2;simp at k0 k1 k2 k3 k4 k5 k6 k7 k8 k9 k10 k11 z0 z1 z2 z3 z4 z5 z6 z7 z8 z9 z10 z11;go_wp2_with fail
 refine (Ao s (i+3+2 * p+2) 0 8 _ hs).mono ?_;rw [Aa HL];rintro e w0 ⟨rfl,rfl⟩;go_wp2_with fail
 refine (Ao s (i+3+2 * p+3) 0 8 _ hs).mono ?_;rw [Aa HH];rintro e w0 ⟨rfl,rfl⟩;go_wp2_with fail
 refine (Ao s (i+3+2 * p+4) 1 120 _ hs).mono ?_;rw [Aa HN];rintro e w0 ⟨rfl,rfl⟩;go_wp2_with fail
 refine bodyPost_ret (v:=.tuple #[.agg #[.int .i64 x0,.int .i64 x1,.slice a2 p.toNat c2,.int .i64 y1,.int .i64 y2,.int .i64 l,.int .i64 h,.string ⟨#[]⟩,.slice none 0 0,.slice none 0 0,.int .i64 0,.int .i64 0],.int .i64 (-1)]) (by simp [results,Tryz.results92,go_sem,z0,z1,z2,z3,z4,z5,z6,z7,z8,z9,z10,z11]) rfl ?_;exact ⟨_,_,_,_,_,_,_,_,_,_,_,_,_,_,_,_,_,_,rfl,by repeat (first | refine Below.setCell ?_ (by simp) _ | exact hB2)⟩
theorem Ws (s:ByteArray) (i p l h n:Int) (w:World) (hs:s.size≤maxLen) (hi0:0≤i) (hi1:i≤50000) (HP:Hid (Rf.cnt s.data.toList (i+2) 0 4=p)) (HL:Hid (Rf.cnt s.data.toList (i+3+2 * p+2) 0 8=l)) (HH:Hid (Rf.cnt s.data.toList (i+3+2 * p+3) 0 8=h)) (HN:Hid (Rf.cnt s.data.toList (i+3+2 * p+4) 1 120=n)) (hp0:0≤p) (hp1:p≤4) (hl0:0≤l) (hh0:0≤h) (hn0:0≤n) (hn1:n≤120) (hneg:(s.size:Int) < i+3+2 * p+5+n) :
  Calls Tryz.prog 92 #[.string s,.int .i64 i] w fun e w' =>
   ∃ x0 x1 a2 n2 c2 x3 x4 x5 x6 sb a8 n8 c8 a9 n9 c9 x10 x11,e=.returned (.tuple #[.agg #[.int .i64 x0,.int .i64 x1,.slice a2 n2 c2,.int .i64 x3,.int .i64 x4,.int .i64 x5,.int .i64 x6,.string sb,.slice a8 n8 c8,.slice a9 n9 c9,.int .i64 x10,.int .i64 x11],.int .i64 (-1)])∧Below w.heap.size w w':=by
 have G1:∃ x0 x1 ps y1 y2,Rf.at' s.data.toList i=x0∧Rf.at' s.data.toList (i+1)=x1∧Rf.tys s.data.toList (i+3) p.toNat=ps∧Rf.at' s.data.toList (i+3+2 * p)=y1∧Rf.at' s.data.toList (i+3+2 * p+1)=y2:=⟨_,_,_,_,_,rfl,rfl,rfl,rfl,rfl⟩;obtain ⟨x0,x1,ps,y1,y2,hx0,hx1,hps,hr1,hr2⟩:=G1;have HX0:=Ac hx0;have HX1:=Ac hx1;have HPS:=Ac hps;have HR1:=Ac hr1;have HR2:=Ac hr2;clear hx0 hx1 hps hr1 hr2;go_enter Tryz.func92,Tryz.ntmps92;go_wp2_with fail
 refine (Bc s i _ hs).mono ?_;rw [Aa HX0];rintro e w0 ⟨rfl,rfl⟩;go_wp2_with fail
 refine (Bc s (i+1) _ hs).mono ?_;rw [Aa HX1];rintro e w0 ⟨rfl,rfl⟩;go_wp2_with fail
 refine (Ao s (i+2) 0 4 _ hs).mono ?_;rw [Aa HP];rintro e w0 ⟨rfl,rfl⟩;go_wp2_with fail
 refine (Bh s (i+3) p _ hs (by omega) (by omega) (by omega) (by omega)).mono ?_;rw [Aa HPS];rintro e w1 ⟨a2,c2,rfl,T1,b1⟩;have B1:=stay b1 (Ah w _ _);have C1:=stay b1 (Ak w _ _);have hB1:=(Aj w _ _).trans (b1.mono (by simp;omega));have s1:=hB1.size;have k2:=Ab B1 2;have f2:=Ag B1 2;simp at k2;go_wp2_with fail
 clear k2 f2;refine (Bh s (i+3+2 * p) 1 _ hs (by omega) (by omega) (by omega) (by omega)).mono ?_;rintro e w2 ⟨ar,cr,rfl,TR,b2⟩;have B2:=stay b2 (Ai (i:=2) B1 (.slice a2 p.toNat c2));have C2:=stay b2 (As C1 (p:=⟨w.heap.size+1,2,none⟩) (by simp) (.slice a2 p.toNat c2));simp at B2;have hB2:=(hB1.setCell (p:=⟨w.heap.size+1,2,none⟩) (by simp) (.slice a2 p.toNat c2)).trans (b2.mono (by simp;omega));have T2:=((T1.mono (b':=w.heap.size) (by simp;omega)).kp (Kp.set (i:=2) B1 (.slice a2 p.toNat c2)) (by decide)).kp (Kp.of_below (e:=none) b2) (by decide);have s2:=hB2.size;obtain ⟨gr,har,hgr,hgr2,hcr⟩:=Am TR (by rw [Br];decide);have r0:=hcr 0 (by simp [Al,Rf.tys]);have r1:=hcr 1 (by simp [Al,Rf.tys]);simp [Al,Rf.tys] at r0 r1;rw [Aa HR1] at r0;rw [Aa HR2] at r1;have hgne:gr ≠ w.heap.size+1:=by
  have hh:=lt_of_block B1;simp at hgr2;omega
 clear hcr T1 b1 b2 B1 C1 hB1 TR hgr2;subst har;obtain ⟨k0,k1,k2,k3,k4,k5,k6,k7,k8,k9,k10,k11⟩:=Ax B2;obtain ⟨f0,f1,f2,f3,f4,f5,f6,f7,f8,f9,f10,f11⟩:=Dj B2;obtain ⟨z0,z1,z2,z3,z4,z5,z6,z7,z8,z9,z10,z11⟩:=Ax C2;obtain ⟨g0,g1,g2,g3,g4,g5,g6,g7,g8,g9,g10,g11⟩:=Dj C2;simp at k0 k1 k2 k3 k4 k5 k6 k7 k8 k9 k10 k11 z0 z1 z2 z3 z4 z5 z6 z7 z8 z9 z10 z11;go_wp2_with fail
 refine (Ao s (i+3+2 * p+2) 0 8 _ hs).mono ?_;rw [Aa HL];rintro e w0 ⟨rfl,rfl⟩;go_wp2_with fail
 refine (Ao s (i+3+2 * p+3) 0 8 _ hs).mono ?_;rw [Aa HH];rintro e w0 ⟨rfl,rfl⟩;go_wp2_with fail
 refine (Ao s (i+3+2 * p+4) 1 120 _ hs).mono ?_;rw [Aa HN];rintro e w0 ⟨rfl,rfl⟩;go_wp2_with fail
 refine bodyPost_ret (v:=.tuple #[.agg #[.int .i64 x0,.int .i64 x1,.slice a2 p.toNat c2,.int .i64 y1,.int .i64 y2,.int .i64 l,.int .i64 h,.string ⟨#[]⟩,.slice none 0 0,.slice none 0 0,.int .i64 0,.int .i64 0],.int .i64 (-1)]) (by simp [results,Tryz.results92,go_sem,z0,z1,z2,z3,z4,z5,z6,z7,z8,z9,z10,z11]) rfl ?_;exact ⟨_,_,_,_,_,_,_,_,_,_,_,_,_,_,_,_,_,_,rfl,by repeat (first | refine Below.setCell ?_ (by simp) _ | exact hB2)⟩
theorem W9 (s:ByteArray) (i p l h:Int) (j n:Nat) (hq:List Rd.Hnd × Int) (w:World) (hs:s.size≤maxLen) (hi0:0≤i) (hi1:i≤50000) (HP:Hid (Rf.cnt s.data.toList (i+2) 0 4=p)) (hj:i+3+2 * p=(j:Int)) (HL:Hid (Rf.cnt s.data.toList ((j:Int)+2) 0 8=l)) (HH:Hid (Rf.cnt s.data.toList ((j:Int)+3) 0 8=h)) (HN:Hid (Rf.cnt s.data.toList ((j:Int)+4) 1 120=(n:Int))) (hp0:0≤p) (hp1:p≤4) (hl0:0≤l) (hl1:l≤8) (hh0:0≤h) (hh1:h≤8) (hn1:n≤120) (hfit:j+5+n≤s.size) (HQ:Hid (Rf.hnds s.data.toList ((j:Int)+5+(n:Int))=hq)) (hneg:hq.2 < 0) :
  Calls Tryz.prog 92 #[.string s,.int .i64 i] w fun e w' =>
   ∃ x0 x1 a2 n2 c2 x3 x4 x5 x6 sb a8 n8 c8 a9 n9 c9 x10 x11,e=.returned (.tuple #[.agg #[.int .i64 x0,.int .i64 x1,.slice a2 n2 c2,.int .i64 x3,.int .i64 x4,.int .i64 x5,.int .i64 x6,.string sb,.slice a8 n8 c8,.slice a9 n9 c9,.int .i64 x10,.int .i64 x11],.int .i64 (-1)])∧Below w.heap.size w w':=by
 have G1:∃ x0 x1 ps y1 y2,Rf.at' s.data.toList i=x0∧Rf.at' s.data.toList (i+1)=x1∧Rf.tys s.data.toList (i+3) p.toNat=ps∧Rf.at' s.data.toList (j:Int)=y1∧Rf.at' s.data.toList ((j:Int)+1)=y2:=⟨_,_,_,_,_,rfl,rfl,rfl,rfl,rfl⟩;obtain ⟨x0,x1,ps,y1,y2,hx0,hx1,hps,hr1,hr2⟩:=G1;have HX0:=Ac hx0;have HX1:=Ac hx1;have HPS:=Ac hps;have HR1:=Ac hr1;have HR2:=Ac hr2;clear hx0 hx1 hps hr1 hr2;go_enter Tryz.func92,Tryz.ntmps92;go_wp2_with fail
 refine (Bc s i _ hs).mono ?_;rw [Aa HX0];rintro e w0 ⟨rfl,rfl⟩;go_wp2_with fail
 refine (Bc s (i+1) _ hs).mono ?_;rw [Aa HX1];rintro e w0 ⟨rfl,rfl⟩;go_wp2_with fail
 refine (Ao s (i+2) 0 4 _ hs).mono ?_;rw [Aa HP];rintro e w0 ⟨rfl,rfl⟩;go_wp2_with fail
 refine (Bh s (i+3) p _ hs (by omega) (by omega) (by omega) (by omega)).mono ?_;rw [Aa HPS];rintro e w1 ⟨a2,c2,rfl,T1,b1⟩;have B1:=stay b1 (Ah w _ _);have C1:=stay b1 (Ak w _ _);have hB1:=(Aj w _ _).trans (b1.mono (by simp;omega));have s1:=hB1.size;have k2:=Ab B1 2;have f2:=Ag B1 2;simp at k2;go_wp2_with fail
 clear k2 f2;refine (Bh s (j:Int) 1 _ hs (by omega) (by omega) (by omega) (by omega)).mono ?_;rintro e w2 ⟨ar,cr,rfl,TR,b2⟩;have B2:=stay b2 (Ai (i:=2) B1 (.slice a2 p.toNat c2));have C2:=stay b2 (As C1 (p:=⟨w.heap.size+1,2,none⟩) (by simp) (.slice a2 p.toNat c2));simp at B2;have hB2:=(hB1.setCell (p:=⟨w.heap.size+1,2,none⟩) (by simp) (.slice a2 p.toNat c2)).trans (b2.mono (by simp;omega));have T2:=((T1.mono (b':=w.heap.size) (by simp;omega)).kp (Kp.set (i:=2) B1 (.slice a2 p.toNat c2)) (by decide)).kp (Kp.of_below (e:=none) b2) (by decide);have s2:=hB2.size;obtain ⟨gr,har,hgr,hgr2,hcr⟩:=Am TR (by rw [Br];decide);have r0:=hcr 0 (by simp [Al,Rf.tys]);have r1:=hcr 1 (by simp [Al,Rf.tys]);simp [Al,Rf.tys] at r0 r1;rw [Aa HR1] at r0;rw [Aa HR2] at r1;have hgne:gr ≠ w.heap.size+1:=by
  have hh:=lt_of_block B1;simp at hgr2;omega
 clear hcr T1 b1 b2 B1 C1 hB1 TR hgr2;subst har;obtain ⟨k0,k1,k2,k3,k4,k5,k6,k7,k8,k9,k10,k11⟩:=Ax B2;obtain ⟨f0,f1,f2,f3,f4,f5,f6,f7,f8,f9,f10,f11⟩:=Dj B2;obtain ⟨z0,z1,z2,z3,z4,z5,z6,z7,z8,z9,z10,z11⟩:=Ax C2;obtain ⟨g0,g1,g2,g3,g4,g5,g6,g7,g8,g9,g10,g11⟩:=Dj C2;simp at k0 k1 k2 k3 k4 k5 k6 k7 k8 k9 k10 k11 z0 z1 z2 z3 z4 z5 z6 z7 z8 z9 z10 z11;go_wp2_with fail
 refine (Ao s ((j:Int)+2) 0 8 _ hs).mono ?_;rw [Aa HL];rintro e w0 ⟨rfl,rfl⟩;go_wp2_with fail
 refine (Ao s ((j:Int)+3) 0 8 _ hs).mono ?_;rw [Aa HH];rintro e w0 ⟨rfl,rfl⟩;go_wp2_with fail
 refine (Ao s ((j:Int)+4) 1 120 _ hs).mono ?_;rw [Aa HN];rintro e w0 ⟨rfl,rfl⟩;have fit1:j+5≤s.size:=by omega
 have fit2:(j:Int)+5+(n:Int)≤(s.size:Int):=by omega
 go_wp2_with fail
 refine (M7 s ((j:Int)+5+(n:Int)) _ hs (by omega) (by omega)).mono ?_;rw [Aa HQ];rintro e w3 ⟨a8,n8,c8,rfl,T8,b3⟩;have B3:=stay b3 (Ai (i:=7) (Ai (i:=6) (Ai (i:=5) (Ai (i:=4) (Ai (i:=3) B2 _) _) _) _) _);have C3:=stay b3 (As (As (As (As (As C2 (p:=⟨w.heap.size+1,3,none⟩) (by simp) _) (p:=⟨w.heap.size+1,4,none⟩) (by simp) _) (p:=⟨w.heap.size+1,5,none⟩) (by simp) _) (p:=⟨w.heap.size+1,6,none⟩) (by simp) _) (p:=⟨w.heap.size+1,7,none⟩) (by simp) _);simp at B3;have hB3:=(((((hB2.setCell (p:=⟨w.heap.size+1,3,none⟩) (by simp) _).setCell (p:=⟨w.heap.size+1,4,none⟩) (by simp) _).setCell (p:=⟨w.heap.size+1,5,none⟩) (by simp) _).setCell (p:=⟨w.heap.size+1,6,none⟩) (by simp) _).setCell (p:=⟨w.heap.size+1,7,none⟩) (by simp) _).trans (b3.mono (by simp;omega));have T3:=(T2.kp (((((Kp.set (i:=3) B2 _).trans (Kp.set (i:=4) (Ai (i:=3) B2 _) _)).trans (Kp.set (i:=5) (Ai (i:=4) (Ai (i:=3) B2 _) _) _)).trans (Kp.set (i:=6) (Ai (i:=5) (Ai (i:=4) (Ai (i:=3) B2 _) _) _) _)).trans (Kp.set (i:=7) (Ai (i:=6) (Ai (i:=5) (Ai (i:=4) (Ai (i:=3) B2 _) _) _) _) _)) (by decide)).kp (Kp.of_below (e:=none) b3) (by decide);have s3:=hB3.size;have T8':=T8.mono (b':=w.heap.size) (by simp;omega);clear k0 f0 z0 g0 k1 f1 z1 g1 k2 f2 z2 g2 k3 f3 z3 g3 k4 f4 z4 g4 k5 f5 z5 g5 k6 f6 z6 g6 k7 f7 z7 g7 k8 f8 z8 g8 k9 f9 z9 g9 k10 f10 z10 g10 k11 f11 z11 g11 B2 C2 hB2 T2 b3 T8 r0 r1;obtain ⟨k0,k1,k2,k3,k4,k5,k6,k7,k8,k9,k10,k11⟩:=Ax B3;obtain ⟨f0,f1,f2,f3,f4,f5,f6,f7,f8,f9,f10,f11⟩:=Dj B3;obtain ⟨z0,z1,z2,z3,z4,z5,z6,z7,z8,z9,z10,z11⟩:=Ax C3;obtain ⟨g0,g1,g2,g3,g4,g5,g6,g7,g8,g9,g10,g11⟩:=Dj C3;simp at k0 k1 k2 k3 k4 k5 k6 k7 k8 k9 k10 k11 z0 z1 z2 z3 z4 z5 z6 z7 z8 z9 z10 z11;go_wp2_with fail
 refine bodyPost_ret (v:=.tuple #[.agg #[.int .i64 x0,.int .i64 x1,.slice a2 p.toNat c2,.int .i64 y1,.int .i64 y2,.int .i64 l,.int .i64 h,.string (s.extract (j+5) (j+5+n)),.slice none 0 0,.slice none 0 0,.int .i64 0,.int .i64 0],.int .i64 (-1)]) (by simp [results,Tryz.results92,go_sem,z0,z1,z2,z3,z4,z5,z6,z7,z8,z9,z10,z11]) rfl ?_;exact ⟨_,_,_,_,_,_,_,_,_,_,_,_,_,_,_,_,_,_,rfl,by repeat (first | refine Below.setCell ?_ (by simp) _ | exact hB3)⟩
theorem Xb (s:ByteArray) (a b:Nat) (hab:a≤b) (hb:b < s.size):(s.extract a (b+1)).data.toList=(s.extract a b).data.toList ++ [s[b]]:=by
 rw [ByteArray.data_extract,ByteArray.data_extract,Array.toList_extract,Array.toList_extract,List.extract_eq_take_drop,List.extract_eq_take_drop];rw [show b+1 - a=(b - a)+1 by omega,List.take_succ_eq_append_getElem (by simp;have:s.data.size=s.size:=rfl;omega)]
 congr 1
 simp
 rw [show (s[b]:UInt8)=s.data[b]'hb from rfl]
 congr 1
 omega
theorem O2 (s:ByteArray) (j n:Nat) (h:j+5+n≤s.size):(s.extract (j+5) (j+5+n)).data.toList.map (fun c=>(c.toNat:Int))=Rf.codeTo s.data.toList ((j:Int)+5) n:=by
 induction n with
 | zero=>simp [Rf.codeTo]
 | succ k ih =>
  have e:(s.extract (j+5) (j+5+(k+1))).data.toList=(s.extract (j+5) (j+5+k)).data.toList ++ [s[j+5+k]'(by omega)]:=by
   exact Xb s (j+5) (j+5+k) (by omega) (by omega)
  rw [e,List.map_append,ih (by omega),Rf.codeTo];have a:Rf.at' s.data.toList ((j:Int)+5+(k:Int))=_:=Fq (i:=j+5+k) (by omega);rw [a];rfl
theorem Wu (s:ByteArray) (i p l h x0 x1 y1 y2:Int) (ps:List (Int × Int)) (j n:Nat) (hq:List Rd.Hnd × Int) (mq:List Rd.Mp × Int) (w:World) (hs:s.size≤maxLen) (hi0:0≤i) (hi1:i≤50000) (HP:Hid (Rf.cnt s.data.toList (i+2) 0 4=p)) (hj:i+3+2 * p=(j:Int)) (HL:Hid (Rf.cnt s.data.toList ((j:Int)+2) 0 8=l)) (HH:Hid (Rf.cnt s.data.toList ((j:Int)+3) 0 8=h)) (HN:Hid (Rf.cnt s.data.toList ((j:Int)+4) 1 120=(n:Int))) (hp0:0≤p) (hp1:p≤4) (hl0:0≤l) (hl1:l≤8) (hh0:0≤h) (hh1:h≤8) (hn1:n≤120) (hfit:j+5+n≤s.size) (HQ:Hid (Rf.hnds s.data.toList ((j:Int)+5+(n:Int))=hq)) (hq0:0≤hq.2) (hq1:hq.2≤100000) (HM:Hid (Rf.mps s.data.toList hq.2 l h=mq))
  (HX0:Hid (Rf.at' s.data.toList i=x0)) (HX1:Hid (Rf.at' s.data.toList (i+1)=x1)) (HPS:Hid (Rf.tys s.data.toList (i+3) p.toNat=ps)) (HR1:Hid (Rf.at' s.data.toList (j:Int)=y1)) (HR2:Hid (Rf.at' s.data.toList ((j:Int)+1)=y2)) :
  Calls Tryz.prog 92 #[.string s,.int .i64 i] w fun e w' =>
   ∃ a2 n2 c2 sb a8 n8 c8 a9 n9 c9,e=.returned (.tuple #[.agg #[.int .i64 x0,.int .i64 x1,.slice a2 n2 c2,.int .i64 y1,.int .i64 y2,.int .i64 l,.int .i64 h,.string sb,.slice a8 n8 c8,.slice a9 n9 c9,.int .i64 hq.2,.int .i64 mq.2],.int .i64 mq.2])∧RMthIn w' w.heap.size ⟨⟨x0,x1,ps,(y1,y2),l,h,Rf.codeTo s.data.toList ((j:Int)+5) n,hq.1,mq.1⟩,hq.2,mq.2⟩ ⟨.slice a2 n2 c2,sb,.slice a8 n8 c8,.slice a9 n9 c9⟩∧Below w.heap.size w w':=by
 go_enter Tryz.func92,Tryz.ntmps92;go_wp2_with fail
 refine (Bc s i _ hs).mono ?_;rw [Aa HX0];rintro e w0 ⟨rfl,rfl⟩;go_wp2_with fail
 refine (Bc s (i+1) _ hs).mono ?_;rw [Aa HX1];rintro e w0 ⟨rfl,rfl⟩;go_wp2_with fail
 refine (Ao s (i+2) 0 4 _ hs).mono ?_;rw [Aa HP];rintro e w0 ⟨rfl,rfl⟩;go_wp2_with fail
 refine (Bh s (i+3) p _ hs (by omega) (by omega) (by omega) (by omega)).mono ?_;rw [Aa HPS];rintro e w1 ⟨a2,c2,rfl,T1,b1⟩;have B1:=stay b1 (Ah w _ _);have C1:=stay b1 (Ak w _ _);have hB1:=(Aj w _ _).trans (b1.mono (by simp;omega));have s1:=hB1.size;have k2:=Ab B1 2;have f2:=Ag B1 2;simp at k2;go_wp2_with fail
 clear k2 f2;refine (Bh s (j:Int) 1 _ hs (by omega) (by omega) (by omega) (by omega)).mono ?_;rintro e w2 ⟨ar,cr,rfl,TR,b2⟩;have B2:=stay b2 (Ai (i:=2) B1 (.slice a2 p.toNat c2));have C2:=stay b2 (As C1 (p:=⟨w.heap.size+1,2,none⟩) (by simp) (.slice a2 p.toNat c2));simp at B2;have hB2:=(hB1.setCell (p:=⟨w.heap.size+1,2,none⟩) (by simp) (.slice a2 p.toNat c2)).trans (b2.mono (by simp;omega));have T2:=((T1.mono (b':=w.heap.size) (by simp;omega)).kp (Kp.set (i:=2) B1 (.slice a2 p.toNat c2)) (by decide)).kp (Kp.of_below (e:=none) b2) (by decide);have s2:=hB2.size;obtain ⟨gr,har,hgr,hgr2,hcr⟩:=Am TR (by rw [Br];decide);have r0:=hcr 0 (by simp [Al,Rf.tys]);have r1:=hcr 1 (by simp [Al,Rf.tys]);simp [Al,Rf.tys] at r0 r1;rw [Aa HR1] at r0;rw [Aa HR2] at r1;have hgne:gr ≠ w.heap.size+1:=by
  have hh:=lt_of_block B1;simp at hgr2;omega
 clear hcr T1 b1 b2 B1 C1 hB1 TR hgr2;subst har;obtain ⟨k0,k1,k2,k3,k4,k5,k6,k7,k8,k9,k10,k11⟩:=Ax B2;obtain ⟨f0,f1,f2,f3,f4,f5,f6,f7,f8,f9,f10,f11⟩:=Dj B2;obtain ⟨z0,z1,z2,z3,z4,z5,z6,z7,z8,z9,z10,z11⟩:=Ax C2;obtain ⟨g0,g1,g2,g3,g4,g5,g6,g7,g8,g9,g10,g11⟩:=Dj C2;simp at k0 k1 k2 k3 k4 k5 k6 k7 k8 k9 k10 k11 z0 z1 z2 z3 z4 z5 z6 z7 z8 z9 z10 z11;go_wp2_with fail
 refine (Ao s ((j:Int)+2) 0 8 _ hs).mono ?_;rw [Aa HL];rintro e w0 ⟨rfl,rfl⟩;go_wp2_with fail
 refine (Ao s ((j:Int)+3) 0 8 _ hs).mono ?_;rw [Aa HH];rintro e w0 ⟨rfl,rfl⟩;go_wp2_with fail
 refine (Ao s ((j:Int)+4) 1 120 _ hs).mono ?_;rw [Aa HN];rintro e w0 ⟨rfl,rfl⟩;have fit1:j+5≤s.size:=by omega
 have fit2:(j:Int)+5+(n:Int)≤(s.size:Int):=by omega
 go_wp2_with fail
 refine (M7 s ((j:Int)+5+(n:Int)) _ hs (by omega) (by omega)).mono ?_;rw [Aa HQ];rintro e w3 ⟨a8,n8,c8,rfl,T8,b3⟩;have B3:=stay b3 (Ai (i:=7) (Ai (i:=6) (Ai (i:=5) (Ai (i:=4) (Ai (i:=3) B2 _) _) _) _) _);have C3:=stay b3 (As (As (As (As (As C2 (p:=⟨w.heap.size+1,3,none⟩) (by simp) _) (p:=⟨w.heap.size+1,4,none⟩) (by simp) _) (p:=⟨w.heap.size+1,5,none⟩) (by simp) _) (p:=⟨w.heap.size+1,6,none⟩) (by simp) _) (p:=⟨w.heap.size+1,7,none⟩) (by simp) _);simp at B3;have hB3:=(((((hB2.setCell (p:=⟨w.heap.size+1,3,none⟩) (by simp) _).setCell (p:=⟨w.heap.size+1,4,none⟩) (by simp) _).setCell (p:=⟨w.heap.size+1,5,none⟩) (by simp) _).setCell (p:=⟨w.heap.size+1,6,none⟩) (by simp) _).setCell (p:=⟨w.heap.size+1,7,none⟩) (by simp) _).trans (b3.mono (by simp;omega));have T3:=(T2.kp (((((Kp.set (i:=3) B2 _).trans (Kp.set (i:=4) (Ai (i:=3) B2 _) _)).trans (Kp.set (i:=5) (Ai (i:=4) (Ai (i:=3) B2 _) _) _)).trans (Kp.set (i:=6) (Ai (i:=5) (Ai (i:=4) (Ai (i:=3) B2 _) _) _) _)).trans (Kp.set (i:=7) (Ai (i:=6) (Ai (i:=5) (Ai (i:=4) (Ai (i:=3) B2 _) _) _) _) _)) (by decide)).kp (Kp.of_below (e:=none) b3) (by decide);have s3:=hB3.size;have T8':=T8.mono (b':=w.heap.size) (by simp;omega);clear k0 f0 z0 g0 k1 f1 z1 g1 k2 f2 z2 g2 k3 f3 z3 g3 k4 f4 z4 g4 k5 f5 z5 g5 k6 f6 z6 g6 k7 f7 z7 g7 k8 f8 z8 g8 k9 f9 z9 g9 k10 f10 z10 g10 k11 f11 z11 g11 B2 C2 hB2 T2 b3 T8 r0 r1;obtain ⟨k0,k1,k2,k3,k4,k5,k6,k7,k8,k9,k10,k11⟩:=Ax B3;obtain ⟨f0,f1,f2,f3,f4,f5,f6,f7,f8,f9,f10,f11⟩:=Dj B3;obtain ⟨z0,z1,z2,z3,z4,z5,z6,z7,z8,z9,z10,z11⟩:=Ax C3;obtain ⟨g0,g1,g2,g3,g4,g5,g6,g7,g8,g9,g10,g11⟩:=Dj C3;simp at k0 k1 k2 k3 k4 k5 k6 k7 k8 k9 k10 k11 z0 z1 z2 z3 z4 z5 z6 z7 z8 z9 z10 z11;go_wp2_with fail
 clear k0 f0 z0 g0 k1 f1 z1 g1 k2 f2 z2 g2 k3 f3 z3 g3 k4 f4 z4 g4 k5 f5 z5 g5 k6 f6 z6 g6 k7 f7 z7 g7 k8 f8 z8 g8 k9 f9 z9 g9 k10 f10 z10 g10 k11 f11 z11 g11;refine (Vj s hq.2 l h _ hs hq0 (by omega) hl0 hl1 hh0 hh1).mono ?_;rw [Aa HM];rintro e w4 ⟨a9,n9,c9,ml,rfl,hml,T9,b4⟩;have B4:=stay b4 B3;have C4:=stay b4 C3;have hB4:=hB3.trans (b4.mono s3);have T4:=T3.kp (Kp.of_below (e:=none) b4) (by decide);have T84:=T8'.kp (Kp.of_below (e:=none) b4) (by decide);have T94:=T9.mono (b':=w.heap.size) s3;have HML:=Ac hml;clear hml B3 C3 hB3 T3 T8' T9 b4;obtain ⟨k0,k1,k2,k3,k4,k5,k6,k7,k8,k9,k10,k11⟩:=Ax B4;obtain ⟨f0,f1,f2,f3,f4,f5,f6,f7,f8,f9,f10,f11⟩:=Dj B4;obtain ⟨z0,z1,z2,z3,z4,z5,z6,z7,z8,z9,z10,z11⟩:=Ax C4;obtain ⟨g0,g1,g2,g3,g4,g5,g6,g7,g8,g9,g10,g11⟩:=Dj C4;simp at k0 k1 k2 k3 k4 k5 k6 k7 k8 k9 k10 k11 z0 z1 z2 z3 z4 z5 z6 z7 z8 z9 z10 z11;go_wp2_with fail
 refine bodyPost_ret (v:=.tuple #[.agg #[.int .i64 x0,.int .i64 x1,.slice a2 p.toNat c2,.int .i64 y1,.int .i64 y2,.int .i64 l,.int .i64 h,.string (s.extract (j+5) (j+5+n)),.slice a8 n8 c8,.slice a9 n9 c9,.int .i64 hq.2,.int .i64 mq.2],.int .i64 mq.2]) (by simp [results,Tryz.results92,go_sem,z0,z1,z2,z3,z4,z5,z6,z7,z8,z9,z10,z11]) rfl ?_;have F0:=Kp.set (b:=w.heap.size) (i:=8) B4 (.slice a8 n8 c8);have P0:=Ai (i:=8) B4 (.slice a8 n8 c8);have R0:=As C4 (p:=⟨w.heap.size+1,8,none⟩) (by simp) (.slice a8 n8 c8);have F1:=F0.trans (Kp.set (i:=9) P0 (.slice a9 n9 c9));have P1:=Ai (i:=9) P0 (.slice a9 n9 c9);have R1:=As R0 (p:=⟨w.heap.size+1,9,none⟩) (by simp) (.slice a9 n9 c9);have F2:=F1.trans (Kp.set (i:=10) P1 (.int .i64 hq.2));have P2:=Ai (i:=10) P1 (.int .i64 hq.2);have R2:=As R1 (p:=⟨w.heap.size+1,10,none⟩) (by simp) (.int .i64 hq.2);have F3:=F2.trans (Kp.set (i:=11) P2 (.int .i64 mq.2));have P3:=Ai (i:=11) P2 (.int .i64 mq.2);have R3:=As R2 (p:=⟨w.heap.size+1,11,none⟩) (by simp) (.int .i64 mq.2);have F4:=F3.trans (Kp.set (i:=0) R3 (.int .i64 x0));have R4:=Ai (i:=0) R3 (.int .i64 x0);have F5:=F4.trans (Kp.set (i:=1) R4 (.int .i64 x1));have R5:=Ai (i:=1) R4 (.int .i64 x1);have F6:=F5.trans (Kp.set (i:=2) R5 (.slice a2 p.toNat c2));have R6:=Ai (i:=2) R5 (.slice a2 p.toNat c2);have F7:=F6.trans (Kp.set (i:=3) R6 (.int .i64 y1));have R7:=Ai (i:=3) R6 (.int .i64 y1);have F8:=F7.trans (Kp.set (i:=4) R7 (.int .i64 y2));have R8:=Ai (i:=4) R7 (.int .i64 y2);have F9:=F8.trans (Kp.set (i:=5) R8 (.int .i64 l));have R9:=Ai (i:=5) R8 (.int .i64 l);have F10:=F9.trans (Kp.set (i:=6) R9 (.int .i64 h));have R10:=Ai (i:=6) R9 (.int .i64 h);have F11:=F10.trans (Kp.set (i:=7) R10 (.string (s.extract (j+5) (j+5+n))));have R11:=Ai (i:=7) R10 (.string (s.extract (j+5) (j+5+n)));have F12:=F11.trans (Kp.set (i:=8) R11 (.slice a8 n8 c8));have R12:=Ai (i:=8) R11 (.slice a8 n8 c8);have F13:=F12.trans (Kp.set (i:=9) R12 (.slice a9 n9 c9));have R13:=Ai (i:=9) R12 (.slice a9 n9 c9);have F14:=F13.trans (Kp.set (i:=10) R13 (.int .i64 hq.2));have R14:=Ai (i:=10) R13 (.int .i64 hq.2);have F15:=F14.trans (Kp.set (i:=11) R14 (.int .i64 mq.2));have R15:=Ai (i:=11) R14 (.int .i64 mq.2);refine ⟨_,_,_,_,_,_,_,_,_,_,rfl,⟨T4.kp F15 (by decide),O2 s j n hfit,T84.kp F15 (by decide),ml,Aa HML,T94.kp F15 (by decide) (by decide)⟩,?_⟩
 repeat (first | refine Below.setCell ?_ (by simp) _ | exact hB4)
def Gg (s:List UInt8) (i:Int) (w:World) (e:Ending) (w':World):Prop :=
 ∃ x0 x1 a2 n2 c2 x3 x4 x5 x6 sb a8 n8 c8 a9 n9 c9 x10 x11,e=.returned (.tuple #[.agg #[.int .i64 x0,.int .i64 x1,.slice a2 n2 c2,.int .i64 x3,.int .i64 x4,.int .i64 x5,.int .i64 x6,.string sb,.slice a8 n8 c8,.slice a9 n9 c9,.int .i64 x10,.int .i64 x11],.int .i64 (Rf.mth s i).2]) ∧
    (0≤(Rf.mth s i).2→[.int .i64 x0,.int .i64 x1,.slice a2 n2 c2,.int .i64 x3,.int .i64 x4,.int .i64 x5,.int .i64 x6,.string sb,.slice a8 n8 c8,.slice a9 n9 c9,.int .i64 x10,.int .i64 x11]=Cv (Rf.mth s i).1 ⟨.slice a2 n2 c2,sb,.slice a8 n8 c8,.slice a9 n9 c9⟩ ∧
     RMthIn w' w.heap.size (Rf.mth s i).1 ⟨.slice a2 n2 c2,sb,.slice a8 n8 c8,.slice a9 n9 c9⟩)∧Below w.heap.size w w'
theorem Pz (s:ByteArray) (i:Int) (w:World) (hs:s.size≤15000) (hi0:0≤i) (hi1:i≤50000) :
  Calls Tryz.prog 92 #[.string s,.int .i64 i] w fun e w'=>Gg s.data.toList i w e w':=by
 have hsm:s.size≤maxLen:=by unfold maxLen;omega
 have hlen:s.data.toList.length=s.size:=by simp
 have fail:(Rf.mth s.data.toList i).2 = -1→(Calls Tryz.prog 92 #[.string s,.int .i64 i] w fun e w' =>
   ∃ x0 x1 a2 n2 c2 x3 x4 x5 x6 sb a8 n8 c8 a9 n9 c9 x10 x11,e=.returned (.tuple #[.agg #[.int .i64 x0,.int .i64 x1,.slice a2 n2 c2,.int .i64 x3,.int .i64 x4,.int .i64 x5,.int .i64 x6,.string sb,.slice a8 n8 c8,.slice a9 n9 c9,.int .i64 x10,.int .i64 x11],.int .i64 (-1)])∧Below w.heap.size w w')→Calls Tryz.prog 92 #[.string s,.int .i64 i] w fun e w'=>Gg s.data.toList i w e w':=by
  intro hm hc;refine hc.mono ?_;rintro e w' ⟨x0,x1,a2,n2,c2,x3,x4,x5,x6,sb,a8,n8,c8,a9,n9,c9,x10,x11,rfl,hb⟩;refine ⟨x0,x1,a2,n2,c2,x3,x4,x5,x6,sb,a8,n8,c8,a9,n9,c9,x10,x11,by rw [hm],fun h=>?_,hb⟩;rw [hm] at h;exact absurd h (by decide)
 have hpb:=Rf.cnt_bd s.data.toList (i+2) 0 4 (by omega);by_cases hp:Rf.cnt s.data.toList (i+2) 0 4 < 0
 ·refine fail ?_ (Xe s i _ w hsm hi0 hi1 (Ac rfl) hp);unfold Rf.mth;simp only;rw [if_pos hp]
 generalize hpe:Rf.cnt s.data.toList (i+2) 0 4=p at *;have hlb:=Rf.cnt_bd s.data.toList (i+3+2 * p+2) 0 8 (by omega);have hhb:=Rf.cnt_bd s.data.toList (i+3+2 * p+3) 0 8 (by omega);have hnb:=Rf.cnt_bd s.data.toList (i+3+2 * p+4) 1 120 (by omega);by_cases hl:Rf.cnt s.data.toList (i+3+2 * p+2) 0 8 < 0
 ·refine fail ?_ (Xk s i p _ _ _ w hsm hi0 hi1 (Ac hpe) (Ac rfl) (Ac rfl) (Ac rfl) (by omega) (by omega) hl);unfold Rf.mth;simp only;rw [hpe,if_neg hp,if_pos hl]
 by_cases hh:Rf.cnt s.data.toList (i+3+2 * p+3) 0 8 < 0
 ·refine fail ?_ (X9 s i p _ _ _ w hsm hi0 hi1 (Ac hpe) (Ac rfl) (Ac rfl) (Ac rfl) (by omega) (by omega) (by omega) hh);unfold Rf.mth;simp only;rw [hpe,if_neg hp,if_neg hl,if_pos hh]
 by_cases hn:Rf.cnt s.data.toList (i+3+2 * p+4) 1 120 < 0
 ·refine fail ?_ (Xa s i p _ _ _ w hsm hi0 hi1 (Ac hpe) (Ac rfl) (Ac rfl) (Ac rfl) (by omega) (by omega) (by omega) (by omega) hn);unfold Rf.mth;simp only;rw [hpe,if_neg hp,if_neg hl,if_neg hh,if_pos hn]
 by_cases hfit:(s.size:Int) < i+3+2 * p+5+Rf.cnt s.data.toList (i+3+2 * p+4) 1 120
 ·refine fail ?_ (Ws s i p _ _ _ w hsm hi0 hi1 (Ac hpe) (Ac rfl) (Ac rfl) (Ac rfl) (by omega) (by omega) (by omega) (by omega) (by omega) (by omega) hfit);unfold Rf.mth;simp only;rw [hpe,if_neg hp,if_neg hl,if_neg hh,if_neg hn,hlen,if_pos hfit]
 obtain ⟨j,hj⟩:=Int.eq_ofNat_of_zero_le (show 0≤i+3+2 * p by omega);obtain ⟨n,hne⟩:=Int.eq_ofNat_of_zero_le (show 0≤Rf.cnt s.data.toList (i+3+2 * p+4) 1 120 by omega);have hle:=Rf.hnds_le s.data.toList ((j:Int)+5+(n:Int));have hnle:n≤120:=by omega
 have hfit':j+5+n≤s.size:=by omega
 rw [hj] at hl hh hn hne hlb hhb hnb hfit;by_cases hq:(Rf.hnds s.data.toList ((j:Int)+5+(n:Int))).2 < 0
 ·refine fail ?_ (W9 s i p _ _ j n _ w hsm hi0 hi1 (Ac hpe) hj (Ac rfl) (Ac rfl) (Ac hne) (by omega) (by omega) (by omega) (by omega) (by omega) (by omega) hnle hfit' (Ac rfl) hq);unfold Rf.mth;simp only;rw [hpe,hj,if_neg hp,if_neg hl,if_neg hh,if_neg hn,hlen,if_neg hfit,hne,if_pos hq]
 have hx:Rf.mth s.data.toList i=(⟨⟨Rf.at' s.data.toList i,Rf.at' s.data.toList (i+1),Rf.tys s.data.toList (i+3) p.toNat,(Rf.at' s.data.toList (j:Int),Rf.at' s.data.toList ((j:Int)+1)),Rf.cnt s.data.toList ((j:Int)+2) 0 8,Rf.cnt s.data.toList ((j:Int)+3) 0 8,Rf.codeTo s.data.toList ((j:Int)+5) n,(Rf.hnds s.data.toList ((j:Int)+5+(n:Int))).1,
   (Rf.mps s.data.toList (Rf.hnds s.data.toList ((j:Int)+5+(n:Int))).2 (Rf.cnt s.data.toList ((j:Int)+2) 0 8) (Rf.cnt s.data.toList ((j:Int)+3) 0 8)).1⟩,(Rf.hnds s.data.toList ((j:Int)+5+(n:Int))).2,(Rf.mps s.data.toList (Rf.hnds s.data.toList ((j:Int)+5+(n:Int))).2 (Rf.cnt s.data.toList ((j:Int)+2) 0 8) (Rf.cnt s.data.toList ((j:Int)+3) 0 8)).2⟩,
   (Rf.mps s.data.toList (Rf.hnds s.data.toList ((j:Int)+5+(n:Int))).2 (Rf.cnt s.data.toList ((j:Int)+2) 0 8) (Rf.cnt s.data.toList ((j:Int)+3) 0 8)).2):=by
  unfold Rf.mth;simp only;rw [hpe,hj,if_neg hp,if_neg hl,if_neg hh,if_neg hn,hlen,if_neg hfit,hne,if_neg hq];rfl
 unfold Gg;rw [hx];refine (Wu s i p _ _ _ _ _ _ _ j n _ _ w hsm hi0 hi1 (Ac hpe) hj (Ac rfl) (Ac rfl) (Ac hne) (by omega) (by omega) (by omega) (by omega) (by omega) (by omega) hnle hfit' (Ac rfl) (by omega) (by omega) (Ac rfl) (Ac rfl) (Ac rfl) (Ac rfl) (Ac rfl) (Ac rfl)).mono ?_;rintro e w' ⟨a2,n2,c2,sb,a8,n8,c8,a9,n9,c9,rfl,hin,hb⟩;exact ⟨_,_,_,_,_,_,_,_,_,_,_,_,_,_,_,_,_,_,rfl,fun _=>⟨rfl,hin⟩,hb⟩
end Go.Proofs.YtcefiamkoincoaaGreat
