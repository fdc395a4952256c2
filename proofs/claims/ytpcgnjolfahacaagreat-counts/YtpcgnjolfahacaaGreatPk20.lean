/- a part of the proofs -/
import Derived.Maps.AppendAt
import Derived.Test.YtpcgnjolfahacaaGreatPk19
set_option maxRecDepth 100000
set_option maxHeartbeats 40000000
set_option linter.unusedVariables false
set_option linter.unusedSimpArgs false
namespace Go.Proofs.YtpcgnjolfahacaaGreat
open Go.RowKit
theorem Lr (k:Mc.K) (S:Mc.S) (v:Mc.V) (st x:Int) (w:World) (ok:k.Ok) (h:Mc.At k S v w) :
  Calls Tryz.prog 85 #[.pointer (some ⟨k.B,0,none⟩),.int .i64 st,.int .i64 x] w fun e w'=>e=.returned (.tuple #[])∧Mc.At k (S.fin st x) v w':=by
 obtain⟨c0,c1,c2,c3,c4,c5,c6,c7,c8,c9,c10,c11,c12,c13,c14,c32,c33,c34,c35,c36,c37,fr⟩:=h.sees;have f33:=fr 33;have f35:=fr 35;have f36:=fr 36;have h1:Mc.At k ⟨S.read,S.objs,S.now,S.wait,S.ended,S.out,st,S.value,S.steps⟩ v (w.setCell ⟨k.B,35,none⟩ (.int .i64 st)):=h.setPost ok (j:=3) (by omega) _ rfl rfl rfl h.rows;have h2:Mc.At k ⟨S.read,S.objs,S.now,S.wait,S.ended,S.out,st,x,S.steps⟩ v ((w.setCell ⟨k.B,35,none⟩ (.int .i64 st)).setCell ⟨k.B,36,none⟩ (.int .i64 x)):=h1.setPost ok (j:=4) (by omega) _ rfl rfl rfl h1.rows;have h3:Mc.At k (S.fin st x) v (((w.setCell ⟨k.B,35,none⟩ (.int .i64 st)).setCell ⟨k.B,36,none⟩ (.int .i64 x)).setCell ⟨k.B,33,none⟩ (.bool true)):=h2.setPost ok (j:=1) (by omega) _ rfl rfl rfl h2.rows;clear c0 c1 c2 c3 c4 c5 c6 c7 c8 c9 c10 c11 c12 c13 c14 c32 c34 c37 fr h1 h2;go_enter Tryz.func85,Tryz.ntmps85;go_wp2
 go_end0
 exact⟨rfl,h3⟩
theorem Pv (w:World) (b:Nat):(⟨0,0,none,0,0,0,0,0,0,none,0,0,none,0,0,none,0,0⟩:PM).is Mc.noMeth w b :=
 ⟨rfl,rfl,rfl,rfl,rfl,rfl,rfl,World.ownsRow_nil _ _ _ _,rfl,World.ownsRow_nil _ _ _ _,rfl,World.ownsRow_nil _ _ _ _,rfl,[],rfl,World.ownsRow_nil _ _ _ _,fun p hp=>by simp at hp⟩
theorem Ee (k:Mc.K) (S:Mc.S) (v:Mc.V) (n:Int) (w:World) (ok:k.Ok) (h:Mc.At k S v w) :
  Calls Tryz.prog 131 #[.pointer (some ⟨k.B,0,none⟩),.int .i64 n] w fun e w'=>∃ m:PM,e=.returned m.val∧m.is (k.E.meth n) w' k.bm∧Below w.heap.size w w':=by
 obtain⟨c0,c1,c2,c3,c4,c5,c6,c7,c8,c9,c10,c11,c12,c13,c14,c32,c33,c34,c35,c36,c37,fr⟩:=h.sees;have hms:=h.rows.mths ok;have hml:=ok.ml;have hlt:=h.blk.lt;clear c0 c2 c3 c4 c5 c6 c7 c8 c9 c10 c11 c12 c13 c14 c32 c33 c34 c35 c36 c37 fr;unfold Mc.E.meth;have hEl:k.E.ms.length=k.lms.length:=by simp[Mc.K.E]
 rw[hEl];by_cases h0:n<0
 ·rw[if_pos h0];clear hms h;go_enter Tryz.func131,Tryz.ntmps131;go_wp2;refine bodyPost_ret (v:=.agg #[.int .i64 0,.int .i64 0,.slice none 0 0,.int .i64 0,.int .i64 0,.int .i64 0,.int .i64 0,.slice none 0 0,.slice none 0 0,.slice none 0 0]) (by simp[results,Tryz.results131,go_sem]) rfl ?_;exact⟨_,rfl,Pv _ _,by repeat (first | exact Below.refl _ _ | refine Below.alloc ?_ (by simp) _ | refine Below.setCell ?_ (by simp) _)⟩
 ·rw[if_neg h0];by_cases h1:(k.lms.length:Int)≤n
  ·rw[if_pos h1];clear hms h;go_enter Tryz.func131,Tryz.ntmps131;go_wp2;refine bodyPost_ret (v:=.agg #[.int .i64 0,.int .i64 0,.slice none 0 0,.int .i64 0,.int .i64 0,.int .i64 0,.int .i64 0,.slice none 0 0,.slice none 0 0,.slice none 0 0]) (by simp[results,Tryz.results131,go_sem]) rfl ?_;exact⟨_,rfl,Pv _ _,by repeat (first | exact Below.refl _ _ | refine Below.alloc ?_ (by simp) _ | refine Below.setCell ?_ (by simp) _)⟩
  ·rw[if_neg h1];obtain⟨i,rfl⟩:=Int.eq_ofNat_of_zero_le (show 0≤n by omega);have hi:i<k.lms.length:=by omega
   have e:k.E.ms.getD (i:Int).toNat Mc.noMeth=k.lms[i].1:=by
    rw[Int.toNat_natCast,List.getD_eq_getElem?_getD];simp[Mc.K.E,hi]
   rw[e];obtain⟨q,g,hg,hglt,A8,hq⟩:=hms.mth hi;obtain⟨y0,y1,y2,y3,y4,y5,y6,y7,y8,y9⟩:=Fw A8;rw[hg]at c1;have hi':(i:Int)<(k.lms.length:Int):=by omega
   generalize k.lms[i]=x at *;obtain⟨q1,q2,q3,q4,q5,q6,q7,q8,q9,qa,qb,qc,qd,qe,qf,qg,qh,qi⟩:=q;simp only at y0 y1 y2 y3 y4 y5 y6 y7 y8 y9;clear A8 hms h h0 h1 e hg hEl;go_enter Tryz.func131,Tryz.ntmps131;go_wp2;refine bodyPost_ret (v:=.agg #[.int .i64 q1,.int .i64 q2,.slice q3 q4 q5,.int .i64 q6,.int .i64 q7,.int .i64 q8,.int .i64 q9,.slice qa qb qc,.slice qd qe qf,.slice qg qh qi]) (by simp[results,Tryz.results131,go_sem]) rfl ?_;have hb:Below w.heap.size w (w.alloc (O12 q1 q2 q3 q4 q5 q6 q7 q8 q9 qa qb qc qd qe qf qg qh qi)):=QN _;exact⟨⟨q1,q2,q3,q4,q5,q6,q7,q8,q9,qa,qb,qc,qd,qe,qf,qg,qh,qi⟩,rfl,hq.below hb,hb⟩
theorem Xb {α β:Type}{f:α→Option β}:∀ {l:List α},(l.filterMap f).Nodup→∀ {i j:Nat}{a b:α}{g:β},i≠j→l[i]?=some a→l[j]?=some b→f a=some g→f b≠some g
 | [],_,i,_,_,_,_,_,h,_,_=>by simp at h
 | x::r,hn,i,j,a,b,g,hij,hi,hj,ha=>by
  intro hb;have hr:(r.filterMap f).Nodup:=by
   cases hx:f x with
   | none=>rw[List.filterMap_cons_none hx]at hn;exact hn
   | some y=>rw[List.filterMap_cons_some hx]at hn;exact(List.nodup_cons.1 hn).2
  have hh:∀ {q:Nat}{c:α},f x=some g→r[q]?=some c→f c=some g→False:=fun {q c} hx hq hc=>by
   rw[List.filterMap_cons_some hx]at hn;exact(List.nodup_cons.1 hn).1 (List.mem_filterMap.2 ⟨c,List.mem_of_getElem? hq,hc⟩)
  cases i with
  | zero =>
   cases j with
   | zero=>exact hij rfl
   | succ j =>
    simp only[List.getElem?_cons_zero,Option.some.injEq]at hi;subst hi;exact hh ha (by simpa using hj) hb
  | succ i =>
   cases j with
   | zero =>
    simp only[List.getElem?_cons_zero,Option.some.injEq]at hj;subst hj;exact hh hb (by simpa using hi) ha
   | succ j=>exact Xb hr (i:=i) (j:=j) (by omega) (by simpa using hi) (by simpa using hj) ha hb
theorem Mc.Rows.obj {k:Mc.K}{objs:List (Int × List Int)}{wait:List Mc.Call}{out:List Int}{v:Mc.V}{w:World} (h:Mc.Rows k objs wait out v w) {i:Nat} (hi:i<objs.length) :
  ∃ g,v.oa=some ⟨g,0,none⟩∧g<w.heap.size∧w.cell? ⟨g,i*2,none⟩=some (.int .i64 (objs.getD i (0,[])).1)∧w.cell? ⟨g,i*2+1,none⟩=some (v.ov.getD i (.slice none 0 0))∧∀ j,w.frozen? ⟨g,j,none⟩=false:=by
 obtain⟨g,hg,hlt,_,hc⟩:=Aw h.objs (by omega);obtain⟨a,b⟩:=P8 objs v.ov h.ovl i hi;have hl:=Np objs v.ov h.ovl;refine⟨g,hg,hlt,by rw[hc _ (by omega)];exact a,by rw[hc _ (by omega)];exact b,?_⟩;intro j;obtain⟨_,⟨hv,hn⟩|⟨g',cap,cur,hv,_,hgg,_⟩⟩:=h.objs
 ·omega
 ·rw[hg]at hv;simp only[Value.slice.injEq,Option.some.injEq,Addr.mk.injEq,and_true]at hv;obtain⟨rfl,_⟩:=hv;exact Ai hgg j
theorem Mc.Rows.flds_ne {k:Mc.K}{objs:List (Int × List Int)}{wait:List Mc.Call}{out:List Int}{v:Mc.V}{w:World} (h:Mc.Rows k objs wait out v w) {i j:Nat}{g:Nat} (hi:i<objs.length) (hj:j<objs.length) (hij:i≠j)
  (hg:(v.ov.getD i (.slice none 0 0)).ownBlock=some g):(v.ov.getD j (.slice none 0 0)).ownBlock≠some g:=by
 have hl:=h.ovl;have e:∀ q,q<objs.length→(Value.slice v.xa out.length v.xc::v.ov)[q+1]?=some (v.ov.getD q (.slice none 0 0)):=fun q hq=>by
  rw[List.getElem?_cons_succ,List.getD_eq_getElem?_getD,List.getElem?_eq_getElem (by omega)];rfl
 exact Xb h.nd (i:=i+1) (j:=j+1) (by omega) (e i hi) (e j hj) hg
theorem Mc.Rows.out_ne {k:Mc.K}{objs:List (Int × List Int)}{wait:List Mc.Call}{out:List Int}{v:Mc.V}{w:World} (h:Mc.Rows k objs wait out v w) {i:Nat}{g:Nat} (hi:i<objs.length)
  (hg:(v.ov.getD i (.slice none 0 0)).ownBlock=some g):(Value.slice v.xa out.length v.xc).ownBlock≠some g:=by
 have hl:=h.ovl;have e:(Value.slice v.xa out.length v.xc::v.ov)[i+1]?=some (v.ov.getD i (.slice none 0 0)):=by
  rw[List.getElem?_cons_succ,List.getD_eq_getElem?_getD,List.getElem?_eq_getElem (by omega)];rfl
 exact Xb h.nd (i:=i+1) (j:=0) (by omega) e rfl hg
theorem Mk (k:Mc.K) (S:Mc.S) (v:Mc.V) (r:Int) (w:World) (h:Mc.At k S v w) :
  Calls Tryz.prog 284 #[.pointer (some ⟨k.B,10,none⟩),.int .i64 r] w fun e w'=>e=.returned (.bool (Mc.has r S.objs))∧w'=w:=by
 have c10:=h.sees.c10;unfold Mc.has;by_cases h1:1≤r
 ·by_cases h2:r≤(S.objs.length:Int)
  ·clear h;go_enter Tryz.func284,Tryz.ntmps284;go_wp2;go_ret;exact⟨by simp[h1,h2],rfl⟩
  ·clear h;go_enter Tryz.func284,Tryz.ntmps284;go_wp2;go_ret;exact⟨by simp[h2],rfl⟩
 ·clear h;go_enter Tryz.func284,Tryz.ntmps284;go_wp2;go_ret;exact⟨by simp;omega,rfl⟩
theorem Ir {r:Int}{l:List (Int × List Int)}:Mc.has r l=true↔∃ i:Nat,i<l.length∧r=(i:Int)+1:=by
 unfold Mc.has;rw[Bool.and_eq_true,decide_eq_true_eq,decide_eq_true_eq]
 constructor
 ·intro ⟨a,b⟩;exact⟨(r-1).toNat,by omega,by omega⟩
 ·rintro ⟨i,a,rfl⟩;omega
theorem Ho (k:Mc.K) (S:Mc.S) (v:Mc.V) (r:Int) (w:World) (h:Mc.At k S v w) :
  Calls Tryz.prog 250 #[.pointer (some ⟨k.B,10,none⟩),.int .i64 r] w fun e w'=>e=.returned (.int .i64 (Mc.classOf r S.objs))∧w'=w:=by
 have hh:=Mk k S v r w h;have c10:=h.sees.c10;unfold Mc.classOf;cases hb:Mc.has r S.objs with
 | false =>
  rw[hb]at hh;rw[if_neg (by simp)];clear h hb;go_enter Tryz.func250,Tryz.ntmps250;go_wp2_with fail
  refine hh.mono ?_;rintro e w1 ⟨rfl,rfl⟩;go_wp2;go_ret;exact⟨rfl,rfl⟩
 | true =>
  rw[hb]at hh;rw[if_pos rfl];obtain⟨i,hi,rfl⟩:=Ir.1 hb;unfold Mc.obj;have e:((i:Int)+1-1).toNat=i:=by omega
  rw[e];obtain⟨g,hg,hlt,y0,y1,yf⟩:=h.rows.obj hi;rw[hg]at c10;have hi':(i:Int)<(S.objs.length:Int):=by omega
  have hl:S.objs.length≤9223372036854775807:=by
   obtain⟨_,⟨_,hn⟩|⟨_,cap,_,_,_,_,h3,h4,_⟩⟩:=h.rows.objs
   ·omega
   ·unfold maxLen at h4;omega
  clear h hb e yf y1 hg;generalize (S.objs.getD i (0,[])).1=cl at *;go_enter Tryz.func250,Tryz.ntmps250;go_wp2_with fail
  refine hh.mono ?_;rintro e w1 ⟨rfl,rfl⟩;go_wp2;go_ret;exact⟨rfl,rfl⟩
theorem I8 (k:Mc.K) (S:Mc.S) (v:Mc.V) (r s:Int) (w:World) (h:Mc.At k S v w) :
  Calls Tryz.prog 302 #[.pointer (some ⟨k.B,10,none⟩),.int .i64 r,.int .i64 s] w fun e w'=>e=.returned (.bool (Mc.hasField r s S.objs))∧w'=w:=by
 have hh:=Mk k S v r w h;have c10:=h.sees.c10;unfold Mc.hasField;cases hb:Mc.has r S.objs with
 | false =>
  rw[hb]at hh;rw[Bool.false_and];clear h hb;go_enter Tryz.func302,Tryz.ntmps302;go_wp2_with fail
  refine hh.mono ?_;rintro e w1 ⟨rfl,rfl⟩;go_wp2;go_ret;exact⟨rfl,rfl⟩
 | true =>
  rw[hb]at hh;rw[Bool.true_and];by_cases h0:0≤s
  ·obtain⟨i,hi,rfl⟩:=Ir.1 hb;unfold Mc.obj;have e:((i:Int)+1-1).toNat=i:=by omega
   rw[e,decide_eq_true h0,Bool.true_and];obtain⟨g,hg,hlt,y0,y1,yf⟩:=h.rows.obj hi;rw[hg]at c10;have hi':(i:Int)<(S.objs.length:Int):=by omega
   have hl:S.objs.length≤9223372036854775807:=by
    obtain⟨_,⟨_,hn⟩|⟨_,cap,_,_,_,_,h3,h4,_⟩⟩:=h.rows.objs
    ·omega
    ·unfold maxLen at h4;omega
   obtain⟨fa,fc,hsh⟩:=Ah (h.rows.flds i hi);rw[hsh]at y1;clear h hb e yf y0 hg hsh;generalize (S.objs.getD i (0,[])).2=fs at *;go_enter Tryz.func302,Tryz.ntmps302;go_wp2_with fail
   refine hh.mono ?_;rintro e w1 ⟨rfl,rfl⟩;go_wp2;go_ret;exact⟨rfl,rfl⟩
  ·rw[decide_eq_false h0,Bool.false_and];clear h hb;go_enter Tryz.func302,Tryz.ntmps302;go_wp2_with fail
   refine hh.mono ?_;rintro e w1 ⟨rfl,rfl⟩;go_wp2;go_ret;exact⟨rfl,rfl⟩
theorem Jm {r s:Int}{l:List (Int × List Int)}:Mc.hasField r s l=true↔∃ i j:Nat,i<l.length∧r=(i:Int)+1∧s=(j:Int)∧j<(l.getD i (0,[])).2.length:=by
 unfold Mc.hasField;rw[Bool.and_eq_true,Ir,Bool.and_eq_true,decide_eq_true_eq,decide_eq_true_eq]
 constructor
 ·rintro ⟨⟨i,hi,rfl⟩,h0,h1⟩;have e:((i:Int)+1-1).toNat=i:=by omega
  unfold Mc.obj at h1;rw[e]at h1;exact⟨i,s.toNat,hi,rfl,by omega,by omega⟩
 ·rintro ⟨i,j,hi,rfl,rfl,hj⟩;have e:((i:Int)+1-1).toNat=i:=by omega
  refine⟨⟨i,hi,rfl⟩,by omega,?_⟩;unfold Mc.obj;rw[e];omega
theorem Mc.Rows.ol {k:Mc.K}{objs:List (Int × List Int)}{wait:List Mc.Call}{out:List Int}{v:Mc.V}{w:World} (h:Mc.Rows k objs wait out v w):objs.length≤9223372036854775807:=by
 obtain⟨_,⟨_,hn⟩|⟨_,cap,_,_,_,_,h3,h4,_⟩⟩:=h.objs
 ·omega
 ·unfold maxLen at h4;omega
theorem Rk (i:Nat) (l:List (Int × List Int)):Mc.obj ((i:Int)+1) l=l.getD i (0,[]):=by
 unfold Mc.obj;rw[show ((i:Int)+1-1).toNat=i by omega]
theorem Acj (k:Mc.K) (S:Mc.S) (v:Mc.V) (r s:Int) (w:World) (h:Mc.At k S v w) :
  Calls Tryz.prog 282 #[.pointer (some ⟨k.B,10,none⟩),.int .i64 r,.int .i64 s] w fun e w'=>e=.returned (.int .i64 (Mc.getF r s S.objs))∧w'=w:=by
 have hh:=I8 k S v r s w h;have c10:=h.sees.c10;unfold Mc.getF;cases hb:Mc.hasField r s S.objs with
 | false =>
  rw[hb]at hh;rw[if_neg (by simp)];clear h hb;go_enter Tryz.func282,Tryz.ntmps282;go_wp2_with fail
  refine hh.mono ?_;rintro e w1 ⟨rfl,rfl⟩;go_wp2;go_ret;exact⟨rfl,rfl⟩
 | true =>
  rw[hb]at hh;rw[if_pos rfl];obtain⟨i,j,hi,rfl,rfl,hj⟩:=Jm.1 hb;rw[Rk,Int.toNat_natCast];obtain⟨g,hg,hlt,y0,y1,yf⟩:=h.rows.obj hi;rw[hg]at c10;have hi':(i:Int)<(S.objs.length:Int):=by omega
  have hl:=h.rows.ol;have hfl:=h.rows.flds i hi;obtain⟨fa,fc,hsh⟩:=Ah hfl;rw[hsh]at y1 hfl;obtain⟨gf,hgf,hgl,hfc⟩:=Jl hfl (by omega);have z0:=hfc j hj;have e:(S.objs.getD i (0,[])).2.getD j 0=(S.objs.getD i (0,[])).2[j]:=by rw[List.getD_eq_getElem?_getD,List.getElem?_eq_getElem hj];rfl
  rw[e];have hj':(j:Int)<((S.objs.getD i (0,[])).2.length:Int):=by omega
  clear h hb yf y0 hg hsh hfl hfc e;generalize (S.objs.getD i (0,[])).2=fs at *;generalize fs[j]=x at *;subst hgf;go_enter Tryz.func282,Tryz.ntmps282;go_wp2_with fail
  refine hh.mono ?_;rintro e w1 ⟨rfl,rfl⟩;go_wp2;go_ret;exact⟨rfl,rfl⟩
theorem Rh {w:World}{b g n c j:Nat}{l:List Int} (h:IntsAt w b (.slice (some ⟨g,0,none⟩) n c) l) (_hj:j<l.length) (x:Int) :
  IntsAt (w.setCell ⟨g,j,none⟩ (.int .i64 x)) b (.slice (some ⟨g,0,none⟩) n c) (l.set j x)∧w.frozen? ⟨g,j,none⟩=false:=by
 obtain⟨h1,⟨hv,hn⟩|⟨g',cap,cur,hv,hb,hg,hle,hm,hsz,htk⟩⟩:=h
 ·simp at hv
 ·simp only[Value.slice.injEq,Option.some.injEq,Addr.mk.injEq,and_true]at hv;obtain⟨rfl,rfl,rfl⟩:=hv;refine⟨⟨by simp,.inr ⟨g,c,_,by simp,hb,Ap hg _,by simpa using hle,hm,by simpa using hsz,?_⟩⟩,Ai hg j⟩;simp only[Nat.mul_one]at htk ⊢;rw[List.length_set,List.map_set,← htk,Array.toList_setIfInBounds,List.take_set]
theorem Mc.Rows.putF {k:Mc.K}{objs:List (Int × List Int)}{wait:List Mc.Call}{out:List Int}{v:Mc.V}{w:World} (h:Mc.Rows k objs wait out v w) (ok:k.Ok) {i j gf n c:Nat} (hi:i<objs.length) (hj:j<(objs.getD i (0,[])).2.length)
  (hf:v.ov.getD i (.slice none 0 0)=.slice (some ⟨gf,0,none⟩) n c) (x:Int) :
  Mc.Rows k (objs.set i ((objs.getD i (0,[])).1,(objs.getD i (0,[])).2.set j x)) wait out v (w.setCell ⟨gf,j,none⟩ (.int .i64 x)):=by
 have hfl:=h.flds i hi;have ho:(v.ov.getD i (.slice none 0 0)).ownBlock=some gf:=by rw[hf];rfl
 have hge:=(hfl.lt gf ho).1;have hgl:=(hfl.lt gf ho).2;have hblk:∃ cs:List Value,w.heap[gf]?=some (.cells cs.toArray 3 (0,0)):=by
  rw[hf]at hfl;obtain⟨_,⟨hv,_⟩ | ⟨g',cap,cur,hv,_,hg,_⟩⟩:=hfl
  ·simp at hv
  ·simp only[Value.slice.injEq,Option.some.injEq,Addr.mk.injEq,and_true]at hv;obtain⟨rfl,_⟩:=hv;exact⟨cur.toList,by simpa using hg⟩
 obtain⟨cs,hblk⟩:=hblk;have hne:∀ q,q≠gf→(w.setCell ⟨gf,j,none⟩ (.int .i64 x)).heap[q]?=w.heap[q]?:=fun q hq=>Below.heap_setCell _ _ _ _ (by simpa using hq);have other:∀ {b e size n:Nat}{u:Value}{xs:List Value},w.ownsRow b e size u n xs→u.ownBlock≠some gf→(w.setCell ⟨gf,j,none⟩ (.int .i64 x)).ownsRow b e size u n xs:=fun hr hu=>Bk hr (fun q hq=>hne q (fun e=>hu (e ▸ hq)));have byty:∀ {b e size n:Nat}{u:Value}{xs:List Value},w.ownsRow b e size u n xs→e≠3→u.ownBlock≠some gf:=fun hr he hu=>Bc hr hblk he gf hu rfl;have hdat:(objs.set i ((objs.getD i (0,[])).1,(objs.getD i (0,[])).2.set j x)).map Prod.fst=objs.map Prod.fst:=by
  rw[List.map_set];apply List.ext_getElem?;intro q;rw[List.getElem?_set];by_cases e:i=q
  ·subst e;rw[if_pos rfl,if_pos (by simpa using hi),List.getElem?_map,List.getD_eq_getElem?_getD,List.getElem?_eq_getElem hi];rfl
  ·rw[if_neg e]
 have hB:=ok.Bs;refine⟨?_,by rw[List.length_set];exact h.ovl,by rw[List.length_set];exact h.obk,fun q hq=>?_,other h.wait (byty h.wait (by decide)),h.wwf,other h.out (h.out_ne hi ho),h.nd,fun q h1 h2 h3=>?_,?_,?_⟩
 ·rw[List.length_set,Lq _ _ _ hdat];exact other h.objs (byty h.objs (by decide))
 ·rw[List.length_set]at hq;by_cases e:q=i
  ·subst e;have e2:(objs.set q ((objs.getD q (0,[])).1,(objs.getD q (0,[])).2.set j x)).getD q (0,[])=((objs.getD q (0,[])).1,(objs.getD q (0,[])).2.set j x):=by
    rw[List.getD_eq_getElem?_getD,List.getElem?_set_self hi];rfl
   rw[e2,hf];rw[hf]at hfl;exact(Rh hfl hj x).1
  ·have e2:(objs.set i ((objs.getD i (0,[])).1,(objs.getD i (0,[])).2.set j x)).getD q (0,[])=objs.getD q (0,[]):=by
    rw[List.getD_eq_getElem?_getD,List.getElem?_set_ne (by omega),← List.getD_eq_getElem?_getD]
   rw[e2];exact other (h.flds q hq) (h.flds_ne hi hq (by omega) ho)
 ·rw[hne q (by omega)];exact h.keep q h1 h2 h3
 ·exact h.low.setCell (by simp;omega) _
 ·simp[World.setCell];exact h.szs
theorem Ada (k:Mc.K) (S:Mc.S) (v:Mc.V) (r s x:Int) (w:World) (ok:k.Ok) (h:Mc.At k S v w) :
  Calls Tryz.prog 283 #[.pointer (some ⟨k.B,10,none⟩),.int .i64 r,.int .i64 s,.int .i64 x] w fun e w'=>e=.returned (.tuple #[])∧Mc.At k (S.withObjs (Mc.putF r s x S.objs)) v w':=by
 have hh:=I8 k S v r s w h;have c10:=h.sees.c10;unfold Mc.putF;cases hb:Mc.hasField r s S.objs with
 | false =>
  rw[hb]at hh;rw[if_neg (by simp)];clear hb;go_enter Tryz.func283,Tryz.ntmps283;go_wp2_with fail
  refine hh.mono ?_;rintro e w1 ⟨rfl,rfl⟩;go_wp2
  go_end0
  exact⟨rfl,h⟩
 | true =>
  rw[hb]at hh;rw[if_pos rfl];obtain⟨i,j,hi,rfl,rfl,hj⟩:=Jm.1 hb;rw[Rk,Int.toNat_natCast,show ((i:Int)+1-1).toNat=i by omega];obtain⟨g,hg,hlt,y0,y1,yf⟩:=h.rows.obj hi;rw[hg]at c10;have hi':(i:Int)<(S.objs.length:Int):=by omega
  have hl:=h.rows.ol;have hfl:=h.rows.flds i hi;obtain⟨fa,fc,hsh⟩:=Ah hfl;have hfl2:=hfl;rw[hsh]at y1 hfl2;obtain⟨gf,hgf,hgl,hfc⟩:=Jl hfl2 (by omega);have z0:=hfc j hj;have hj':(j:Int)<((S.objs.getD i (0,[])).2.length:Int):=by omega
  subst hgf;have zf:=(Rh hfl2 hj x).2;have hR:=h.rows.putF ok hi hj hsh x;have hgB:gf≠k.B:=by
   have ho:(v.ov.getD i (.slice none 0 0)).ownBlock=some gf:=by rw[hsh];rfl
   have:=(hfl.lt gf ho).1;have:=ok.Bs;omega
  have hA:Mc.At k (S.withObjs (S.objs.set i ((S.objs.getD i (0,[])).1,(S.objs.getD i (0,[])).2.set j x))) v (w.setCell ⟨gf,j,none⟩ (.int .i64 x)):=by
   refine⟨?_,h.wf,hR⟩;have hb:=h.blk;unfold Mid at hb ⊢;rw[Below.heap_setCell _ _ _ _ (by simpa using Ne.symm hgB)]
   simpa[Mc.S.withObjs] using hb
  have HA:=Ac hA;clear hb yf y0 hg hsh hfl hfl2 hfc hR hA h;generalize (S.objs.getD i (0,[])).2=fs at *;generalize fs[j]=x0 at *;go_enter Tryz.func283,Tryz.ntmps283;go_wp2_with fail
  refine hh.mono ?_;rintro e w1 ⟨rfl,rfl⟩;go_wp2
  go_end0
  exact⟨rfl,Aa HA⟩
theorem Tm {w:World}{b e size n g cap j:Nat}{xs:List Value} (h:w.ownsRow b e size (.slice (some ⟨g,0,none⟩) n cap) n xs) (u:Value):(w.setCell ⟨g,j,none⟩ u).ownsRow b e size (.slice (some ⟨g,0,none⟩) n cap) n (xs.set j u):=by
 obtain⟨h1,⟨hv,hn⟩|⟨g',cap',cur,hv,hb,hg,hle,hm,hsz,htk⟩⟩:=h
 ·simp at hv
 ·simp only[Value.slice.injEq,Option.some.injEq,Addr.mk.injEq,and_true,true_and]at hv;obtain⟨rfl,rfl⟩:=hv;refine⟨by simpa using h1,.inr ⟨g,cap,_,rfl,hb,Ap hg _,hle,hm,by simpa using hsz,?_⟩⟩;rw[← htk,Array.toList_setIfInBounds,List.take_set]
theorem Qv {α β:Type}{f:α→Option β}:∀ (l:List α) (i:Nat) (y:α),(l.filterMap f).Nodup→(∀ g,f y=some g→∀ u∈l,f u≠some g)→((l.set i y).filterMap f).Nodup
 | [],_,_,h,_=>h
 | x::r,0,y,h,hy=>by
  rw[List.set_cons_zero];have hr:(r.filterMap f).Nodup:=by
   cases hx:f x with
   | none=>rw[List.filterMap_cons_none hx]at h;exact h
   | some z=>rw[List.filterMap_cons_some hx]at h;exact(List.nodup_cons.1 h).2
  cases hf:f y with
  | none=>rw[List.filterMap_cons_none hf];exact hr
  | some g =>
   rw[List.filterMap_cons_some hf];refine List.nodup_cons.2 ⟨fun hm=>?_,hr⟩;obtain⟨u,hu,hu'⟩:=List.mem_filterMap.1 hm;exact hy g hf u (by simp[hu]) hu'
 | x::r,i+1,y,h,hy=>by
  rw[List.set_cons_succ];have hy':∀ g,f y=some g→∀ u∈r,f u≠some g:=fun g hg u hu=>hy g hg u (by simp[hu]);cases hx:f x with
  | none =>
   rw[List.filterMap_cons_none hx]at h ⊢;exact Qv r i y h hy'
  | some z =>
   rw[List.filterMap_cons_some hx]at h ⊢;obtain⟨h1,h2⟩:=List.nodup_cons.1 h;refine List.nodup_cons.2 ⟨fun hm=>?_,Qv r i y h2 hy'⟩;obtain⟨u,hu,hu'⟩:=List.mem_filterMap.1 hm;rcases List.mem_or_eq_of_mem_set hu with hu | rfl
   ·exact h1 (List.mem_filterMap.2 ⟨u,hu,hu'⟩)
   ·exact hy z hu' x (by simp) hx
def Mc.V.setO (v:Mc.V) (i:Nat) (u:Value):Mc.V:=⟨v.oa,v.oc,v.wa,v.wc,v.xa,v.xc,v.ov.set i u⟩
theorem Mc.Rows.setF {k:Mc.K}{objs:List (Int × List Int)}{wait:List Mc.Call}{out:List Int}{v:Mc.V}{w:World} (h:Mc.Rows k objs wait out v w) (ok:k.Ok) {i g:Nat} (hi:i<objs.length) (hg:v.oa=some ⟨g,0,none⟩) {u:Value}{fs:List Int}
  (hu:IntsAt w k.w0.heap.size u fs) (hfr:∀ q,u.ownBlock=some q→∀ x∈(Value.slice v.xa out.length v.xc::v.ov),x.ownBlock≠some q) :
  Mc.Rows k (objs.set i ((objs.getD i (0,[])).1,fs)) wait out (v.setO i u) (w.setCell ⟨g,i*2+1,none⟩ u):=by
 have hob:=h.objs;rw[hg]at hob;have ho:(Value.slice (some ⟨g,0,none⟩) objs.length v.oc).ownBlock=some g:=rfl;have hblk:∃ cs:List Value,w.heap[g]?=some (.cells cs.toArray 215 (0,0)):=by
  obtain⟨_,⟨hv,_⟩|⟨g',cap,cur,hv,_,hg,_⟩⟩:=hob
  ·simp at hv
  ·simp only[Value.slice.injEq,Option.some.injEq,Addr.mk.injEq,and_true]at hv;obtain⟨rfl,_⟩:=hv;exact⟨cur.toList,by simpa using hg⟩
 obtain⟨cs,hblk⟩:=hblk;have hne:∀ q,q≠g→(w.setCell ⟨g,i*2+1,none⟩ u).heap[q]?=w.heap[q]?:=fun q hq=>Below.heap_setCell _ _ _ _ (by simpa using hq);have other:∀ {b e size n:Nat}{x:Value}{xs:List Value},w.ownsRow b e size x n xs→e≠215→(w.setCell ⟨g,i*2+1,none⟩ u).ownsRow b e size x n xs:=fun hr he=>Bk hr (fun q hq=>hne q (Bc hr hblk he q hq));have hB:=ok.Bs;have hobk:=h.obk g (by rw[hg];rfl);have hol:=h.ovl;have hge:=(hob.lt g rfl).1;refine⟨?_,by simp[Mc.V.setO,h.ovl],by rw[List.length_set];exact h.obk,fun q hq=>?_,other h.wait (by decide),h.wwf,other h.out (by decide),?_,fun q h1 h2 h3=>?_,?_,?_⟩
 ·rw[List.length_set];show (w.setCell ⟨g,i*2+1,none⟩ u).ownsRow _ _ 2 (.slice v.oa _ v.oc) _ (Bi _ (v.ov.set i u));rw[← Mz objs v.ov h.ovl i _ fs u rfl hi,hg];exact Tm hob u
 ·rw[List.length_set]at hq;show IntsAt _ _ ((v.ov.set i u).getD q (.slice none 0 0)) _;by_cases e:q=i
  ·subst e;rw[List.getD_eq_getElem?_getD,List.getElem?_set_self (by omega),List.getD_eq_getElem?_getD,List.getElem?_set_self hi];exact other hu (by decide)
  ·rw[List.getD_eq_getElem?_getD,List.getElem?_set_ne (by omega),← List.getD_eq_getElem?_getD,List.getD_eq_getElem?_getD (l:=objs.set i _),List.getElem?_set_ne (by omega),← List.getD_eq_getElem?_getD];exact other (h.flds q hq) (by decide)
 ·have:=Qv (f:=Value.ownBlock) (Value.slice v.xa out.length v.xc::v.ov) (i+1) u h.nd hfr;rw[List.set_cons_succ]at this;exact this
 ·rw[hne q (by omega)];exact h.keep q h1 h2 h3
 ·exact h.low.setCell (by simp;omega) _
 ·simp[World.setCell];exact h.szs
theorem Acm (k:Mc.K) (S:Mc.S) (v:Mc.V) (r:Int) (fa:Option Addr) (fc:Nat) (fs:List Int) (w:World) (ok:k.Ok) (h:Mc.At k S v w) (hu:IntsAt w k.w0.heap.size (.slice fa fs.length fc) fs)
  (hfr:∀ q,(Value.slice fa fs.length fc).ownBlock=some q→∀ x∈(Value.slice v.xa S.out.length v.xc::v.ov),x.ownBlock≠some q) :
  Calls Tryz.prog 280 #[.pointer (some ⟨k.B,10,none⟩),.int .i64 r,.slice fa fs.length fc] w fun e w'=>e=.returned (.tuple #[])∧∃ v',Mc.At k (S.withObjs (Mc.setF r fs S.objs)) v' w':=by
 have hh:=Mk k S v r w h;have c10:=h.sees.c10;unfold Mc.setF;cases hb:Mc.has r S.objs with
 | false =>
  rw[hb]at hh;rw[if_neg (by simp)];clear hb hu hfr;go_enter Tryz.func280,Tryz.ntmps280;go_wp2_with fail
  refine hh.mono ?_;rintro e w1 ⟨rfl,rfl⟩;go_wp2
  go_end0
  exact⟨rfl,v,h⟩
 | true =>
  rw[hb]at hh;rw[if_pos rfl];obtain⟨i,hi,rfl⟩:=Ir.1 hb;rw[Rk,show ((i:Int)+1-1).toNat=i by omega];obtain⟨g,hg,hlt,y0,y1,yf⟩:=h.rows.obj hi;have hR:=h.rows.setF ok hi hg hu hfr;have hi':(i:Int)<(S.objs.length:Int):=by omega
  have hl:=h.rows.ol;have yf':=yf (i*2+1);have hgB:g≠k.B:=by
   have:=Bc h.rows.objs h.blk (by decide) g (by rw[hg];rfl);exact this
  rw[hg]at c10;have hA:Mc.At k (S.withObjs (S.objs.set i ((S.objs.getD i (0,[])).1,fs))) (v.setO i (.slice fa fs.length fc)) (w.setCell ⟨g,i*2+1,none⟩ (.slice fa fs.length fc)):=by
   refine⟨?_,h.wf,hR⟩;have hb:=h.blk;unfold Mid at hb ⊢;rw[Below.heap_setCell _ _ _ _ (by simpa using Ne.symm hgB)]
   simpa[Mc.S.withObjs,Mc.pre,Mc.post,Mc.V.setO] using hb
  have HA:=Ac hA;generalize v.ov.getD i (.slice none 0 0)=old at *;clear hb yf y0 hg hR hA h hu hfr;go_enter Tryz.func280,Tryz.ntmps280;go_wp2_with fail
  refine hh.mono ?_;rintro e w1 ⟨rfl,rfl⟩;go_wp2
  go_end0
  exact⟨rfl,_,Aa HA⟩
theorem Tryz.infoObj:(Tryz.prog.info? 215).map (fun i=>(i.zero,i.size,i.bytes))=some (some (.agg #[.int .i64 0,.slice none 0 0]),2,32):=by kernel_rfl
theorem Mc.At.drewN {k:Mc.K}{S:Mc.S}{v:Mc.V}{w:World} (h:Mc.At k S v w) (ok:k.Ok) (n:Nat):Mc.At k S v (w.drewN n):=h.gr ok ⟨rfl,rfl,rfl,Nat.le_refl _,fun _ _=>rfl⟩
theorem Mc.At.drew {k:Mc.K}{S:Mc.S}{v:Mc.V}{w:World} (h:Mc.At k S v w) (ok:k.Ok):Mc.At k S v w.drew:=h.gr ok ⟨rfl,rfl,rfl,Nat.le_refl _,fun _ _=>rfl⟩
theorem Mc.Rows.addO {k:Mc.K}{objs:List (Int × List Int)}{wait:List Mc.Call}{out:List Int}{v:Mc.V}{w w':World} (h:Mc.Rows k objs wait out v w) (ok:k.Ok) {cs:List Value} (hB:w.heap[k.B]?=some (.cells cs.toArray 156 (0,0))) {cl:Int}{oa:Option Addr}{oc:Nat}
  (ho:w'.ownsRow k.wE.heap.size 215 2 (.slice oa (objs.length+1) oc) (objs.length+1) (Bi objs v.ov++[.int .i64 cl,.slice none 0 0])) (hg:w.grownBy w' (Value.slice v.oa objs.length v.oc).ownBlock)
  (hat:(Value.slice oa (objs.length+1) oc).ownBlock=(Value.slice v.oa objs.length v.oc).ownBlock∨(Value.slice oa (objs.length+1) oc).ownBlock=some w.heap.size) :
  Mc.Rows k (objs++[(cl,[])]) wait out ⟨oa,oc,v.wa,v.wc,v.xa,v.xc,v.ov++[.slice none 0 0]⟩ w'∧w'.heap[k.B]?=w.heap[k.B]?:=by
 have hob:=h.objs;have hblk:∀ g,(Value.slice v.oa objs.length v.oc).ownBlock=some g→∃ cs:List Value,w.heap[g]?=some (.cells cs.toArray 215 (0,0)):=fun g hgo=>by
  obtain⟨_,⟨hv,_⟩|⟨g',cap,cur,hv,_,hg,_⟩⟩:=hob
  ·rw[hv]at hgo;simp[Value.ownBlock]at hgo
  ·rw[hv]at hgo;simp only[Value.ownBlock,Option.some.injEq]at hgo;subst hgo;exact⟨cur.toList,by simpa using hg⟩
 have other:∀ {b e size n:Nat}{x:Value}{xs:List Value},w.ownsRow b e size x n xs→e≠215→w'.ownsRow b e size x n xs:=fun hr he=>Bk hr (fun q hq=>hg.block q (hr.lt q hq).2 (fun e=>by
  obtain⟨cs,hc⟩:=hblk q e.symm;exact Bc hr hc he q hq rfl))
 have hBs:=ok.Bs;have hol:=h.ovl;have hbB:w'.heap[k.B]?=w.heap[k.B]?:=hg.block k.B (lt_of_block hB) (fun e=>Bc hob hB (by decide) k.B e.symm rfl);refine⟨⟨?_,by simp[h.ovl],fun j hj=>?_,fun q hq=>?_,other h.wait (by decide),h.wwf,other h.out (by decide),?_,fun q h1 h2 h3=>?_,?_,Nat.le_trans h.szs hg.size⟩,hbB⟩
 ·rw[List.length_append,List.length_singleton,Ij _ _ h.ovl];exact ho
 ·rw[List.length_append,List.length_singleton]at hj;rcases hat with e | e
  ·rw[e]at hj;exact h.obk j hj
  ·rw[e]at hj;have:w.heap.size=j:=by simpa using hj
   exact .inr (by rw[← this];exact h.szs)
 ·rw[List.length_append,List.length_singleton]at hq;by_cases e:q<objs.length
  ·show IntsAt _ _ ((v.ov++[Value.slice none 0 0]).getD q _) _;rw[List.getD_eq_getElem?_getD,List.getElem?_append_left (by omega),← List.getD_eq_getElem?_getD,List.getD_eq_getElem?_getD (l:=objs++_),List.getElem?_append_left e,← List.getD_eq_getElem?_getD];exact other (h.flds q e) (by decide)
  ·have eq:q=objs.length:=by omega
   subst eq;show IntsAt _ _ ((v.ov++[Value.slice none 0 0]).getD _ _) _;rw[List.getD_eq_getElem?_getD,List.getElem?_append_right (by omega),List.getD_eq_getElem?_getD (l:=objs++_),List.getElem?_append_right (by omega),hol];simp only[Nat.sub_self,List.getElem?_cons_zero,Option.getD_some];exact World.ownsRow_nil _ _ _ _
 ·have e:(Value.slice v.xa out.length v.xc::(v.ov++[.slice none 0 0])).filterMap Value.ownBlock=(Value.slice v.xa out.length v.xc::v.ov).filterMap Value.ownBlock:=by
   rw[← List.cons_append,List.filterMap_append];simp[Value.ownBlock]
  rw[e];exact h.nd
 ·rw[hg.block q (Nat.lt_of_lt_of_le h1 h.szs) (fun e=>by rcases h.obk q e.symm with e' | e' <;> omega)];exact h.keep q h1 h2 h3
 ·exact⟨hg.os.trans h.low.os,hg.tape.trans h.low.tape,hg.output.trans h.low.output,Nat.le_trans h.low.size hg.size,
   fun q hq=>(hg.block q (Nat.lt_of_lt_of_le hq h.low.size) (fun e=>by have:=(hob.lt q e.symm).1;omega)).trans (h.low.block q hq)⟩
theorem Rz (k:Mc.K) (S:Mc.S) (v:Mc.V) (cl:Int) (w:World) (ok:k.Ok) (h:Mc.At k S v w) (hol:S.objs.length≤1000) (hr:k.room≤(S.objs.length:Int)-5) :
  Calls Tryz.prog 278 #[.pointer (some ⟨k.B,10,none⟩),.int .i64 cl] w fun e w'=>e=.returned (.tuple #[.int .i64 0,.bool false])∧Mc.At k S v w':=by
 have c10:=h.sees.c10;have c11:=h.sees.c11;obtain⟨r0,r1⟩:=ok.rm;go_enter Tryz.func278,Tryz.ntmps278;go_wp2
 go_quiet (fail)
 go_wp2;go_ret2;exact⟨rfl,h.drewN ok _⟩
theorem Adm (k:Mc.K) (S:Mc.S) (v:Mc.V) (cl:Int) (w:World) (ok:k.Ok) (h:Mc.At k S v w) (hol:S.objs.length≤1000) (hr:¬ k.room≤(S.objs.length:Int)-5) :
  Calls Tryz.prog 278 #[.pointer (some ⟨k.B,10,none⟩),.int .i64 cl] w fun e w'=>e=.returned (.tuple #[.int .i64 ((S.objs.length:Int)+1),.bool true])∧∃ v',Mc.At k (S.withObjs (S.objs++[(cl,[])])) v' w':=by
 have c10:=h.sees.c10;have c11:=h.sees.c11;have f10:=h.sees.fr 10;obtain⟨r0,r1⟩:=ok.rm;obtain⟨i0,hi,hz0,hz1,hz2⟩:=info_parts Tryz.infoObj;have hbl:=h.rows.low.size;have HA:Hid (Mc.At k S v w):=h;have hob:=h.rows.objs;clear h;go_enter Tryz.func278,Tryz.ntmps278;go_wp2
 go_quiet (fail)
 rename_i nq;have h1:=(Aa HA).drewN ok nq;have hob1:=h1.rows.objs;have H1:=Ac h1;clear h1 hob;go_wp2_with (at_builtin;refine wpList_append_own_at _ rfl _ _ 146 rfl k.wE.heap.size 215 i0 _ 2 32 Tryz.underlying146 hi hz0 hz1 hz2 rfl (by decide) _ _ _ rfl (hob1.alloc _) ⟨w.heap.size,0,none⟩ 1 1 [.int .i64 cl,.slice none 0 0] rfl rfl ?c1 ?c2 ?c3 ?c4 ?c5 ?_)
 case c1=>exact Ay _ _ _ _ rfl
 case c2=>intro u hu;simp at hu;rcases hu with rfl | rfl<;>rfl
 case c3=>unfold maxLen;omega
 case c4=>omega
 case c5=>simp;omega
 intro v' w2 hown2 hgrow _ hat;obtain⟨oa,oc,rfl⟩:=Ah hown2;have h2:=(Aa H1).gr ok (QN (O24 cl none 0 0));obtain⟨hR,hBB⟩:=h2.rows.addO ok h2.blk hown2 hgrow (by simpa using hat);have hM:Mid w2 k.B 156 (Mc.pre k S.read S.objs.length v) S.now.cells (Mc.post v S.wait.length S.out.length S.ended S.status S.value S.steps):=hBB.trans h2.blk;have hM0:=hM.front.cell (o:=0) (j:=10) rfl (by rw[Bp];omega);have hM1:=hM.free 10;have HM:=Ac hM;have HR:=Ac hR;have HW:=Ac h2.wf;simp[Mc.pre]at hM0;clear hM hR h2 H1 HA hown2 hgrow hat hBB hob1;go_wp2;go_ret2;refine⟨rfl,⟨oa,oc,v.wa,v.wc,v.xa,v.xc,v.ov++[.slice none 0 0]⟩,?_⟩;exact Yj (Aa HM) (Bp _ _ _ _) (Aa HW) ok (by omega) _ rfl (by simp[Mc.pre,Mc.S.withObjs]) rfl (Aa HR)
theorem U8 (c:Int) (w:World) (h0:0≤c) (h1:c≤100):Calls Tryz.prog 277 #[.int .i64 c] w fun e w'=>e=.returned (.int .i64 (c-2+1))∧w'=w:=by
 go_enter Tryz.func277,Tryz.ntmps277;go_wp2;go_ret;exact⟨rfl,rfl⟩
theorem In:∀ (W:List Mc.Call),(∀ c∈W,Mc.Wf c)→(W.flatMap Mc.Call.cells).length=W.length*20
 | [],_=>rfl
 | c::r,h=>by
  rw[List.flatMap_cons,List.length_append,In r (fun x hx=>h x (by simp[hx])),(h c (by simp)).len,List.length_cons];omega
theorem Ac4 {w:World}{b e size n m cap:Nat}{a:Option Addr}{xs ys:List Value} (h:w.ownsRow b e size (.slice a n cap) n (xs++ys)) (hx:xs.length=m*size) (hm:m≤n) (hn:0<n):w.ownsRow b e size (.slice a m cap) m xs:=by
 obtain⟨h1,⟨hv,h0⟩|⟨g,cap',cur,hv,hb,hg,hle,hmx,hsz,htk⟩⟩:=h
 ·omega
 ·simp only[Value.slice.injEq,true_and]at hv;obtain⟨rfl,rfl⟩:=hv;refine⟨hx,.inr ⟨g,cap,cur,rfl,hb,hg,by omega,hmx,hsz,?_⟩⟩;have:=congrArg (List.take (m*size)) htk;rw[List.take_take,Nat.min_eq_left (Nat.mul_le_mul_right _ hm),← hx,List.take_left]at this;rw[← hx];exact this
theorem Mc.Rows.last {k:Mc.K}{objs:List (Int × List Int)}{W:List Mc.Call}{c:Mc.Call}{out:List Int}{v:Mc.V}{w:World} (h:Mc.Rows k objs (W++[c]) out v w) :
  ∃ g,v.wa=some ⟨g,0,none⟩∧g<w.heap.size∧w.rangeAt g (W.length*20) c.cells∧W.length<v.wc∧v.wc≤maxLen:=by
 have hw:=h.wait;obtain⟨g,hg,hlt,_,hc⟩:=Aw hw (by simp);have hl:=In W (fun x hx=>h.wwf x (by simp[hx]));refine⟨g,hg,hlt,fun j u hu=>?_,?_⟩
 ·have hj:=(List.getElem?_eq_some_iff.1 hu).1;rw[hc _ (by rw[List.flatMap_append,List.length_append,hl];simp;omega),List.flatMap_append,List.getElem?_append_right (by omega),hl,show W.length*20+j-W.length*20=j by omega]
  simpa using hu
 ·obtain⟨_,⟨_,h0⟩|⟨g',cap',cur,hv,_,_,hle,hmx,_⟩⟩:=hw
  ·simp at h0
  ·simp only[Value.slice.injEq]at hv;obtain⟨_,_,rfl⟩:=hv;simp at hle;exact⟨by omega,hmx⟩
theorem Mc.Rows.drop {k:Mc.K}{objs:List (Int × List Int)}{W:List Mc.Call}{c:Mc.Call}{out:List Int}{v:Mc.V}{w:World} (h:Mc.Rows k objs (W++[c]) out v w):Mc.Rows k objs W out v w:=by
 refine⟨h.objs,h.ovl,h.obk,h.flds,?_,fun x hx=>h.wwf x (by simp[hx]),h.out,h.nd,h.keep,h.low,h.szs⟩;have hw:=h.wait;rw[List.flatMap_append]at hw;exact Ac4 hw (In W (fun x hx=>h.wwf x (by simp[hx]))) (by simp) (by simp)
theorem Ta (k:Mc.K) (S:Mc.S) (v:Mc.V) (w:World) (h:Mc.At k S v w) (h0:S.wait=[]) :
  Calls Tryz.prog 252 #[.pointer (some ⟨k.B,0,none⟩)] w fun e w'=>e=.returned (.bool false)∧Mc.At k S v w':=by
 have c32:=h.sees.c32;rw[h0]at c32;simp at c32;clear h0;go_enter Tryz.func252,Tryz.ntmps252;go_wp2;go_ret;exact⟨rfl,h⟩
theorem Js (k:Mc.K) (S:Mc.S) (v:Mc.V) (W:List Mc.Call) (c:Mc.Call) (w:World) (ok:k.Ok) (h:Mc.At k S v w) (h0:S.wait=W++[c]) :
  Calls Tryz.prog 252 #[.pointer (some ⟨k.B,0,none⟩)] w fun e w'=>e=.returned (.bool true)∧Mc.At k ⟨S.read,S.objs,c,W,S.ended,S.out,S.status,S.value,S.steps⟩ v w':=by
 have c32:=h.sees.c32;have hr:=h.rows;rw[h0]at c32 hr;obtain⟨g,hg,hglt,hrg,hwc,hwm⟩:=hr.last;have hf:Mc.Wf c:=hr.wwf c (by simp);have hd:=hr.drop;have hblk:=h.blk;have hwl:S.wait.length=W.length+1:=by rw[h0];simp
 rw[hwl]at hblk;have hM:=Fb c.cells _ S.now.cells _ w (by rw[h.wf.len,hf.len]) hblk;rw[Bp]at hM;have hG:=Fy k.B c.cells 12 w;have hR:=hd.gr ok h.blk hG;have hth:w.there k.B 12 c.cells.toArray.size:=h.blk.there (o:=12) rfl (by rw[h.wf.len];simp[hf.len]);have h20:(Tryz.prog.info? 152).map (·.size)=some c.cells.toArray.size:=by rw[Tryz.infoCall];simp[hf.len]
 have h20':(Tryz.prog.info? 152).map (·.size)=some c.cells.length:=by rw[Tryz.infoCall];simp[hf.len]
 have hall:=all_oneCell_toArray (Dy c);have hA:=Gq (j:=0) (S':=⟨S.read,S.objs,c,W,S.ended,S.out,S.status,S.value,S.steps⟩) (v':=v) hM (Bp _ _ _ _) (Db _ _ _ _ _ _ _) hf ok (by omega) (.slice v.wa W.length v.wc) rfl rfl rfl hR;have z32:=hM.tail.cell (o:=32) (j:=0) (by rw[List.length_append,Bp,hf.len]) (by rw[Db];omega);have zf:=hM.free 32;have e32:(Mc.post v (W.length+1) S.out.length S.ended S.status S.value S.steps)[0]?=some (.slice v.wa (W.length+1) v.wc):=rfl;rw[e32,hg]at z32;rw[hg]at c32 hA;simp only[List.length_append,List.length_singleton,Nat.add_zero]at c32 z32 hA;have HA:=Ac hA;have hwm':v.wc≤9223372036854775807:=by unfold maxLen at hwm;omega
 clear hM hG hR hA hblk hr hd h0 hg e32 h;go_enter Tryz.func252,Tryz.ntmps252;go_wp2_with (first | (refine wpList_load_mid (by rfl) 152 (.tmp 18) (by rfl) g (W.length*20) (by rfl) c.cells _ hrg Tryz.underlying152 (by rfl) h20' ?_) | (refine wpList_store_mid (by rfl) 152 (.tmp 21) (.tmp 19) (by rfl) k.B 12 c.cells.toArray (by rfl) (by rfl) hth h20 hall ?_))
 go_ret;exact⟨rfl,Aa HA⟩
end Go.Proofs.YtpcgnjolfahacaaGreat
