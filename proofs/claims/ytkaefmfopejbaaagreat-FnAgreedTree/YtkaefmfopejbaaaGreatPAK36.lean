/-
  Packed: LoopI TreeRoot DrawNt5 NetNewT NetNewS.
-/
import Derived.Test.YtkaefmfopejbaaaGreatPAK21
import Derived.Test.YtkaefmfopejbaaaGreatPAK35
namespace Go.Proofs.YtkaefmfopejbaaaGreat
set_option maxRecDepth 100000
set_option maxHeartbeats 16000000
open Go.RowKit

section
open Go.RowKit Go.Maps

theorem zhz (N:NV) (ss:List SY) (hok:NetOk N.brs N.ls ss) (ha:agreed N.brs N.ls=true) (la:Option Addr) (n c:Nat) (l:List Int) (w:World) (h:zaa w N) (hl:GRow intF w la n c l) (hll:l=zY N.brs N.ls N.ls.length) (hn:n≤1048576) :
  Calls Tryz.prog 16 #[.agg #[.slice N.ba N.bn N.bc,.slice N.la N.ln N.lc,.slice N.sa N.sn N.sc],.slice la n c] w fun e w'=>e=.returned (.bool false)∧Below w.heap.size w w':=by
 have hNL:N.brs.length=N.bn:=by rw [zc0]; exact h.b.size
 have HBN:Hid (N.bn≤1048576):=hide (by rw [← hNL]; have:=hok.1.2.2.2; omega);generalize hw1:w.alloc (Obj.cells #[.slice N.ba N.bn N.bc,.slice N.la N.ln N.lc,.slice N.sa N.sn N.sc] 28)=w1;have b01:=zb hw1;have k1:=zk hw1;obtain ⟨x0,x1,x2⟩:=zd k1;go_enter Tryz.func16,Tryz.ntmps16;go_wp2_with fail
 refine (zeb N la n c l _ (h.below b01) (hl.below b01) hn).mono ?_;rintro e w2 ⟨cs,ta,tc,hcs,hnd,hcl,rfl,oT,b12⟩;have b02:=zc b01 b12;have hT:=zC (F:=linkF) oT;have HTI:Hid (∀y∈told N.bn N.ls cs,inB N.bn y.a=true∧inB N.bn y.b=true):=hide (fun y hy=>by obtain ⟨k,-,-,h1,h2⟩:=zcO.1 hy; exact ⟨h1,h2⟩);have HRING:Hid (∀(i:Nat) (x:LK),(told N.bn N.ls cs)[i]? = some x→¬RchT ((told N.bn N.ls cs).take i) x.a x.b):=hide (fun i x hx=>by
  rw [← hNL] at hx ⊢;exact zm4 hok ha hnd (fun k=>by rw [hcs,hll]) hx)
 have HTL:Hid ((told N.bn N.ls cs).length≤1048576):=hide (Nat.le_trans (zjD N.bn N.ls cs) (Nat.le_trans hcl hn));clear x0 x1 x2 hw1 k1 b12 oT hcs hnd hcl hNL hll;generalize told N.bn N.ls cs=Tl at *;have htl:=HTL.out;go_wp2_with fail
 go_loopw [15] (fun i wr=>∃k:Nat,k≤Tl.length∧i=.int .i64 k∧Below w2.heap.size w2 wr) (fun i _=>Tl.length - (intOf i).toNat)
 case atStart=>exact ⟨0,Nat.zero_le _,rfl,Below.refl _ _⟩
 case round =>
  obtain ⟨k,hk,rfl,hb⟩:=hrel;by_cases hlt:k < Tl.length
  ·have i1:(k:Int) < (Tl.length:Int):=by omega
   have i0:(0:Int)≤(k:Int):=by omega
   obtain ⟨x,lb,lo,hx,rfl,c0,c1,c2,c3⟩:=zao (hT.below hb) k hlt;have HXA:=hide (HTI.out x (List.mem_of_getElem? hx));have HNR:=hide (HRING.out k x hx);have hcap:=hT.le;have hc2:(k:Int)≤(tc:Int):=by omega
   have hxb:=zaU.1 HXA.out.2;have HKEY:Hid (keyOf Tryz.prog 3 (.int .i64 x.b)=some (.int .i64 x.b)):=hide (keyOf_int_mk Tryz.underlying3 (zlF ⟨by omega,by have:=HBN.out; omega⟩));generalize hwl:wr.alloc (Obj.cells #[.int .i64 x.a,.int .i64 x.p,.int .i64 x.b,.int .i64 x.q] 66)=wl;have brl:=zb hwl;have kL:=zk hwl;have hb:=zc hb brl;clear hx hxb;(go_upto_region 5 with fail);(try rw [hwl]);generalize hxb:wr.heap.size=xb at *;have HSX:Hid (∀W,Below wl.heap.size wl W→zcc W xb 0 (.int .i64 x.a)∧zcc W xb 1 (.int .i64 x.p)∧zcc W xb 2 (.int .i64 x.b)∧zcc W xb 3 (.int .i64 x.q)):=hide (fun W hW=>zE (za kL hW));have vv:Below wl.heap.size wl wl.drew:=zq (Below.refl _ _);clear hwl hxb brl c0 c1 c2 c3 kL;refine wp_region_held_drew (S:=(fun W=>zcc W xb 0 (.int .i64 x.a)∧zcc W xb 1 (.int .i64 x.p)∧zcc W xb 2 (.int .i64 x.b)∧zcc W xb 3 (.int .i64 x.q))) (by kernel_rfl) (HSX.out _ vv) (fun hHeld => ?_);refine kK 0 ?_;refine kK 1 ?_;refine kK 2 ?_;refine kK 3 ?_;refine kK 4 ?_;refine kK 6 ?_;refine kK 7 ?_;refine tR [5,12] ?_;refine kC (fun K hK => ?_) ?_
   ·go_simp;clear hHeld;refine (zdO (Tl.take k) N.bn x.a (some ⟨lb,lo,none⟩) k tc _ ((hT.below (zc hb vv)).take (by omega)) (fun y hy=>HTI.out y (List.mem_of_mem_take hy)) HXA.out.1 HBN.out).mono ?_;rintro e wz ⟨S,rfl,hRI,hown,hbz⟩;have vv:=zc vv hbz;have hhas:Maps.has (setI S) (.int .i64 x.b)=false:=by
     rw [zd4];cases hc:S.contains x.b with
     | false=>rfl
     | true=>exact absurd (hRI.all.1 (List.contains_iff_mem.1 hc)) HNR.out
    have HHAS:=hide hhas;clear hbz hRI hhas;(go_wp2_with fail);refine kO hK (HSX.out _ vv) fun hHeld => ?_
    clear hK K;refine tR [8,12] ?_;refine kC (fun K hK => ?_) ?_
    ·clear hHeld;obtain ⟨vl,pl,hlk,hvl⟩:=hown.look_ok keyI Tryz.underlying78 (zeroE _) unitElem_mk HKEY.out;obtain ⟨rfl,-⟩:=unitElem_inv hvl;rw [HHAS.out] at hlk;(try simp only [World.size_drew] at hlk);go_simp;clear hlk hvl;refine kO hK (HSX.out _ vv) fun hHeld => ?_
     clear hK K;refine kK 9 ?_;refine kK 10 ?_;refine kK 11 ?_;refine kR 12 fun K hK => ?_
     go_simp
     first
     | refine zw (K:=K _) (fun wx kS hbx => ?_)
     | refine zo (K:=K _) (fun wx kS hbx => ?_)
     have vv:=zc vv hbx;(try have hown:=zbq hown hbx);clear hbx hHeld;refine kO hK (HSX.out _ vv) fun hHeld => ?_
     clear hK K;refine kR 13 fun K hK => ?_
     clear hHeld;go_simp;refine kO hK (HSX.out _ vv) fun hHeld => ?_
     clear hK K;refine kK 14 ?_;refine wpAnyH_done (by kernel_rfl) ?_ _;clear hHeld;have HB:=hide (zc hb vv);clear vv hb;go_wp2
     go_roundw
     case rel=>exact ⟨k+1,by omega,by go_num,HB.out⟩
     case measure=>simp [intOf]; omega
    refine kC (fun K hK => ?_) ?_
    ·go_simp
     first
     | refine zw (K:=K _) (fun wx kS hbx => ?_)
     | refine zo (K:=K _) (fun wx kS hbx => ?_)
     have vv:=zc vv hbx;(try have hown:=zbq hown hbx);clear hbx hHeld;refine kO hK (HSX.out _ vv) fun hHeld => ?_
     clear hK K;refine kR 8 fun K hK => ?_
     clear hHeld;obtain ⟨vl,pl,hlk,hvl⟩:=hown.look_ok keyI Tryz.underlying78 (zeroE _) unitElem_mk HKEY.out;obtain ⟨rfl,-⟩:=unitElem_inv hvl;rw [HHAS.out] at hlk;(try simp only [World.size_drew] at hlk);go_simp;clear hlk hvl;refine kO hK (HSX.out _ vv) fun hHeld => ?_
     clear hK K;refine kK 9 ?_;refine kK 10 ?_;refine kK 11 ?_;refine kR 13 fun K hK => ?_
     clear hHeld;go_simp;refine kO hK (HSX.out _ vv) fun hHeld => ?_
     clear hK K;refine kK 14 ?_;refine wpAnyH_done (by kernel_rfl) ?_ _;clear hHeld;have HB:=hide (zc hb vv);clear vv hb;go_wp2
     go_roundw
     case rel=>exact ⟨k+1,by omega,by go_num,HB.out⟩
     case measure=>simp [intOf]; omega
    exact AllReadyH.nil
   refine kC (fun K hK => ?_) ?_
   ·go_simp
    first
    | refine zw (K:=K _) (fun wx kS hbx => ?_)
    | refine zo (K:=K _) (fun wx kS hbx => ?_)
    have vv:=zc vv hbx;(try have hown:=zbq hown hbx);clear hbx hHeld;refine kO hK (HSX.out _ vv) fun hHeld => ?_
    clear hK K;refine kR 5 fun K hK => ?_
    go_simp;clear hHeld;refine (zdO (Tl.take k) N.bn x.a (some ⟨lb,lo,none⟩) k tc _ ((hT.below (zc hb vv)).take (by omega)) (fun y hy=>HTI.out y (List.mem_of_mem_take hy)) HXA.out.1 HBN.out).mono ?_;rintro e wz ⟨S,rfl,hRI,hown,hbz⟩;have vv:=zc vv hbz;have hhas:Maps.has (setI S) (.int .i64 x.b)=false:=by
     rw [zd4];cases hc:S.contains x.b with
     | false=>rfl
     | true=>exact absurd (hRI.all.1 (List.contains_iff_mem.1 hc)) HNR.out
    have HHAS:=hide hhas;clear hbz hRI hhas;(go_wp2_with fail);refine kO hK (HSX.out _ vv) fun hHeld => ?_
    clear hK K;refine kR 8 fun K hK => ?_
    clear hHeld;obtain ⟨vl,pl,hlk,hvl⟩:=hown.look_ok keyI Tryz.underlying78 (zeroE _) unitElem_mk HKEY.out;obtain ⟨rfl,-⟩:=unitElem_inv hvl;rw [HHAS.out] at hlk;(try simp only [World.size_drew] at hlk);go_simp;clear hlk hvl;refine kO hK (HSX.out _ vv) fun hHeld => ?_
    clear hK K;refine kK 9 ?_;refine kK 10 ?_;refine kK 11 ?_;refine kR 13 fun K hK => ?_
    clear hHeld;go_simp;refine kO hK (HSX.out _ vv) fun hHeld => ?_
    clear hK K;refine kK 14 ?_;refine wpAnyH_done (by kernel_rfl) ?_ _;clear hHeld;have HB:=hide (zc hb vv);clear vv hb;go_wp2
    go_roundw
    case rel=>exact ⟨k+1,by omega,by go_num,HB.out⟩
    case measure=>simp [intOf]; omega
   exact AllReadyH.nil
  ·have hke:k=Tl.length:=by omega
   have HB:=hide (zc b02 hb);clear hb;go_wp2;go_ret;exact ⟨rfl,HB.out⟩

end

theorem zmE (bs:List BR) (ls:List LK):Ups bs ls (upTo bs ls ls.length) :=
 ⟨fun k hk=>zlw.1 hk,fun k hk=>by
  obtain ⟨κ,h1,h2,h3⟩:=zbO.1 hk;exact zlw.2 ⟨κ,h1,h2,zgr h3⟩⟩

theorem zj9 {bs:List BR} {ls:List LK} {ss:List SY} (h:NetOk bs ls ss) (ha:agreed bs ls=true) {u:Nat} {A:BR} (hA:bs[u]? = some A):zbI bs ls bs.length (u:Int)=(knowT A).r:=by
 obtain ⟨j1,x,X,j2,j3,j4⟩:=zhE h ha (zmE bs ls) hA;have hid:∀{y:Nat} {Y:BR},bs[y]? = some Y→idOf bs (y:Int)=Y.id:=fun hY=>by
  unfold idOf;rw [Int.toNat_natCast,hY]
 unfold zbI;generalize joined bs.length ls (u:Int) (upTo bs ls ls.length)=J at *;obtain ⟨-,l2⟩:=zhZ bs (idOf bs (u:Int)) J J.length;obtain ⟨i,hi,e⟩:=List.mem_iff_getElem.1 j2;have h1:=l2 i (x:Int) hi (by rw [List.getElem?_eq_getElem hi,e]);rw [hid j3] at h1;have h2:(knowT A).r≤zbD bs (idOf bs (u:Int)) J J.length:=by
  rcases zhY bs (idOf bs (u:Int)) J J.length with e | ⟨z,hz,e⟩
  ·rw [e,hid hA];exact zdU.2.1
  ·obtain ⟨y,Y,rfl,hY,hle⟩:=j1 z hz;rw [e,hid hY];exact hle
 omega

theorem zf2 {bs:List BR} {ls:List LK} {ss:List SY} (h:NetOk bs ls ss) (ha:agreed bs ls=true) (b:Int):joined bs.length ls b (zY bs ls ls.length)=joined bs.length ls b (upTo bs ls ls.length):=ziy h ha (zmE bs ls) b

theorem ziP {bs:List BR} {ls:List LK} {ss:List SY} (h:NetOk bs ls ss) (ha:agreed bs ls=true):(List.range bs.length).countP (fun u:Nat=>decide (zbI bs ls bs.length (u:Int)=idOf bs (u:Int)))=bs.length - (zY bs ls ls.length).length:=by
 have e:=zgq h ha;have e2:(List.range bs.length).countP (fun u:Nat=>decide (zbI bs ls bs.length (u:Int)=idOf bs (u:Int)))=(List.range bs.length).countP (zb1 bs):=List.countP_congr (fun u hu=>by
  have hu:=List.mem_range.1 hu;have hA:=List.getElem?_eq_getElem hu;rw [zj9 h ha hA];unfold zb1 idOf;rw [Int.toNat_natCast,hA])
 omega

theorem zkS (s:Int):∀(n i:Nat),i < n→(idsTo s n)[i]? = some (1+(s+(i:Int)*3) % 7)
 | 0,i,h=>absurd h (Nat.not_lt_zero _)
 | n+1,i,h=>by
  rw [idsTo];by_cases e:i=n
  ·subst e;rw [List.getElem?_append_right (by rw [zbV]; exact Nat.le_refl _),zbV,Nat.sub_self]
   rfl
  ·rw [List.getElem?_append_left (by rw [zbV]; omega)];exact zkS s n i (by omega)

theorem znI {s:Int} {pp:Nat} {i:Nat} (hp:1≤pp∧pp≤6):zn (1+(s+(i:Int)*3) % 7) (pp:Int)=zac (1+(s+(i:Int)*3) % 7) pp:=by
 unfold zn;rw [if_pos (by simp; omega),Int.toNat_natCast]

theorem zlQ {s:Int} {nn pp:Nat} {ls:List LK} (hn:1≤nn∧nn≤6) (hp:1≤pp∧pp≤6) (h:zdC nn pp ls):NetOk (newBs (idsTo s nn) (pp:Int)) ls []:=by
 have hlen:(newBs (idsTo s nn) (pp:Int)).length=nn:=by unfold newBs; rw [List.length_map,zbV]
 have hat:∀i:Nat,i < nn→(newBs (idsTo s nn) (pp:Int))[i]? = some (zac (1+(s+(i:Int)*3) % 7) pp):=fun i hi=>by rw [zcF (zkS s nn i hi),znI hp]
 have hport:∀b p:Int,0≤b∧b < (nn:Int)→0≤p∧p < (pp:Int)→zad (newBs (idsTo s nn) (pp:Int)) b p=some newPt:=fun b p hb hq=>by
  unfold zad;rw [if_pos ⟨hb.1,hq.1⟩,hat b.toNat (by omega)]
  show (List.replicate pp newPt)[p.toNat]? = some newPt
  rw [List.getElem?_replicate,if_pos (by omega)]
 refine ⟨⟨fun x hx => ?_,fun i j x y hij hx hy => ?_,by rw [hlen]; exact hn.1,by rw [hlen]; exact hn.2⟩,(za1 _ _).2 ⟨h.len,fun x hx => ?_,h.nd⟩,fun i B hB p x hx hh => ?_,by simp,by intro s hs; cases hs⟩
 ·obtain ⟨i,hi,rfl⟩:=List.mem_iff_getElem.1 hx;rw [hlen] at hi
  have:=hat i hi
  rw [List.getElem?_eq_getElem (by rw [hlen]; exact hi)] at this;rw [Option.some.inj this];exact zgY (by omega) hp
 ·have hj:j < nn:=by rw [← hlen]; exact (List.getElem?_eq_some_iff.1 hy).1
  rw [hat i (by omega)] at hx;rw [hat j hj] at hy;cases hx;cases hy
  show 1+(s+(i:Int)*3) % 7≠1+(s+(j:Int)*3) % 7
  omega
 ·obtain ⟨h1,h2,h3,h4,h5⟩:=h.at' x hx;exact ⟨h1,newPt,newPt,hport _ _ h2 h4,hport _ _ h3 h5,rfl⟩
 ·have hi:i < nn:=by rw [← hlen]; exact (List.getElem?_eq_some_iff.1 hB).1
  rw [hat i hi] at hB;cases hB;have hx:(List.replicate pp newPt)[p]? = some x:=hx;rw [List.getElem?_replicate] at hx
  split at hx
  ·cases hx;cases hh
  ·cases hx

def costB (B:BR) (p:Nat) (x:PT) (k:Int):BR:={ B with ports:=B.ports.set p { x with k:=k } }

theorem ziz {ls:List LK} {i:Nat} {B:BR} (h:zu B=true) {p:Nat} {x:PT} (hx:B.ports[p]? = some x) {k:Int} (hk:1≤k∧k≤1000):zeF ls noU i B (costB B p x k):=by
 have hp:ptOk { x with k:=k }=true:=by
  have h1:=ziM h hx;unfold ptOk at *;simp only [Bool.and_eq_true] at h1 ⊢;exact ⟨by simp; omega,h1.2⟩
 refine ⟨rfl,zg2 h hp,by simp [costB],fun q x' hx' => ?_⟩;have hy':(B.ports.set p { x with k:=k })[q]? = some x':=hx';rw [List.getElem?_set] at hy'
 split at hy'
 ·next e =>
  subst e;have e2:({ x with k:=k }:PT)=x':=by simpa [(List.getElem?_eq_some_iff.1 hx).1] using hy'
  subst e2;exact ⟨x,hx,rfl,.inl⟩
 ·exact ⟨x',hy',rfl,.inl⟩

theorem zjT {bs:List BR} {ls:List LK} {ss:List SY} (h:NetOk bs ls ss) {i p:Nat} {B:BR} {x:PT} (hB:bs[i]? = some B) (hx:B.ports[p]? = some x) {k:Int} (hk:1≤k∧k≤1000):NetOk (bs.set i (costB B p x k)) ls ss:=by
 have e:bs.set i (costB B p x k)=atSet bs i (fun B=>costB B p x k):=by unfold atSet; rw [hB]
 rw [e];refine zdk (U:=noU) (fun _ _=>rfl) h (zbo h.1.1 (fun _ _ _=>rfl) (fun D hD => ?_)) h.2.2.2;rw [hB] at hD;cases hD;exact ziz (h.1.1 B (List.mem_of_getElem? hB)) hx hk

theorem NOwn.cost {w:World} {base:Nat} {M:NV} (h:NOwn w base M) {i p:Nat} {y:BV} {x:PT} (hy:M.bs[i]? = some y) (hx:y.B.ports[p]? = some x) {g:Nat} (hg:y.a=some ⟨g,0,none⟩) (k:Int) :
  NOwn (w.setCell ⟨g,p*8+1,none⟩ (.int .i64 k)) base { M with bs:=M.bs.set i { y with B:=costB y.B p x k } }:=by
 have hO:=h.b.item y (List.mem_of_getElem? hy);have hports:w.ownsRow base 53 8 (.slice (some ⟨g,0,none⟩) y.n y.c) y.n (ptF.all y.B.ports):=by rw [← hg]; exact hO.ports
 obtain ⟨pre,post,e1,e2,e3⟩:=zek (y:={ y with B:=costB y.B p x k }) hy;obtain ⟨pr,po,f1,f2,f3⟩:=zek (y:={ x with k:=k }) hx;have hgs:w.grownBy (w.setCell ⟨g,p*8+1,none⟩ (.int .i64 k)) (some g):=zj _ _;have hgs2:w.grownBy (w.setCell ⟨g,p*8+1,none⟩ (.int .i64 k)) (Value.slice (some ⟨g,0,none⟩) y.n y.c).ownBlock:=hgs;have hNew:(w.setCell ⟨g,p*8+1,none⟩ (.int .i64 k)).ownsRow base 53 8 (.slice (some ⟨g,0,none⟩) y.n y.c) y.n (ptF.all (y.B.ports.set p { x with k:=k })):=by
  rw [← f3];rw [f1] at hports;rw [f2];exact zS (F:=ptF) hports 1 (.int .i64 k) (by decide) rfl
 have hrow:(w.setCell ⟨g,p*8+1,none⟩ (.int .i64 k)).ownsRow base 44 11 (.slice M.ba M.bn M.bc) M.bn (brF.all M.bs):=zD h.b.row hports (by decide) hgs2;have hall:brF.all (M.bs.set i { y with B:=costB y.B p x k })=brF.all M.bs:=by
  rw [← e3]
  conv=>rhs; rw [e1]
  rw [brF.all_append,brF.all_append,brF.all_cons,brF.all_cons]
  rfl
 refine ⟨?_,zD h.l hports (by decide) hgs2,zD h.s hports (by decide) hgs2⟩
 show BOs _ base M.ba M.bn M.bc (M.bs.set i { y with B:=costB y.B p x k })
 have hb:=h.b;rw [e1] at hb;have hit:({ y with B:=costB y.B p x k }:BV).Own (w.setCell ⟨g,p*8+1,none⟩ (.int .i64 k)) base:=by
  refine ⟨?_,zD hO.f hports (by decide) hgs2,⟨zD hO.v.rows hports (by decide) hgs2,zD hO.v.own hports (by decide) hgs2,hO.v.i64⟩⟩
  show (w.setCell ⟨g,p*8+1,none⟩ (.int .i64 k)).ownsRow base 53 8 (.slice y.a y.n y.c) y.n (ptF.all (y.B.ports.set p { x with k:=k }))
  rw [hg];exact hNew
 have hO3:Only [g] w (w.setCell ⟨g,p*8+1,none⟩ (.int .i64 k)):=Only.set w g _ _;rw [← e3] at hall ⊢;refine hb.turn (bs:=[g]) (fun z hz b hb1 hb2=>zgd hb.apart z hz b hb1 hb2) hO3 (fun b hb'=>.inl ?_) (by rw [hall]; exact hrow) hit;rw [List.mem_singleton] at hb';rw [hb'];exact zcE.2 (.inl (by rw [hg]; simp [blkL]))

structure NnSt (w wr:World) (X:Nat) (la:Option Addr) (ln lc:Nat) (l:List LK) (ba:Option Addr) (bn bc:Nat) (bs:List BV):Prop where
 box:wr.heap[X]? = some (.cells #[.slice ba bn bc,.slice la ln lc,.slice none 0 0] 28)
 res:wr.heap[w.heap.size]? = some (.cells #[.slice none 0 0,.slice none 0 0,.slice none 0 0] 28)
 b:BOs wr (w.heap.size+1) ba bn bc bs
 l:wr.ownsRow (w.heap.size+1) 66 4 (.slice la ln lc) ln (linkF.all l)
 below:Below w.heap.size w wr
 lt:w.heap.size < X

theorem NnSt.later {w wr:World} {X:Nat} {la:Option Addr} {ln lc:Nat} {l:List LK} {ba:Option Addr} {bn bc:Nat} {bs:List BV} (h:NnSt w wr X la ln lc l ba bn bc bs) {w':World} (hb:Below wr.heap.size wr w'):NnSt w w' X la ln lc l ba bn bc bs :=
 ⟨za h.box hb,za h.res hb,h.b.below hb,zh h.l hb,zc h.below hb,h.lt⟩

theorem NnSt.size {w wr:World} {X:Nat} {la:Option Addr} {ln lc:Nat} {l:List LK} {ba:Option Addr} {bn bc:Nat} {bs:List BV} (h:NnSt w wr X la ln lc l ba bn bc bs):w.heap.size+1≤wr.heap.size:=zaX h.res

theorem NnSt.rows {w wr:World} {X:Nat} {la:Option Addr} {ln lc:Nat} {l:List LK} {ba:Option Addr} {bn bc:Nat} {bs:List BV} (h:NnSt w wr X la ln lc l ba bn bc bs) {w':World} (hg:wr.grownBy w' (Value.slice ba bn bc).ownBlock):w'.heap[X]? = some (.cells #[.slice ba bn bc,.slice la ln lc,.slice none 0 0] 28)∧w'.heap[w.heap.size]? = some (.cells #[.slice none 0 0,.slice none 0 0,.slice none 0 0] 28)∧w'.ownsRow (w.heap.size+1) 66 4 (.slice la ln lc) ln (linkF.all l)∧Below w.heap.size w w' :=
 ⟨ze h.box hg (fun k hk=>zA h.b.row h.box (by decide) k hk),ze h.res hg (fun k hk=>zA h.b.row h.res (by decide) k hk),zD h.l h.b.row (by decide) hg,h.below.grown hg h.below.size (by intro k hk; have:=(h.b.row.lt k hk).1; omega)⟩

theorem NnSt.push {w wr:World} {X:Nat} {la:Option Addr} {ln lc:Nat} {l:List LK} {ba:Option Addr} {bn bc:Nat} {bs:List BV} (h:NnSt w wr X la ln lc l ba bn bc bs) {w1 w2:World} (hb:Below wr.heap.size wr w1) {y:BV} (hy:y.Own w1 wr.heap.size) (hg:w1.grownBy w2 (Value.slice ba bn bc).ownBlock) {ao':Option Addr} {cap':Nat} (hr:w2.ownsRow (w.heap.size+1) 44 11 (.slice ao' (bn+1) cap') (bn+1) (brF.all (bs++[y]))) :
  w2.heap[X]? = some (.cells #[.slice ba bn bc,.slice la ln lc,.slice none 0 0] 28)∧Below w.heap.size w w2∧NnSt w (w2.setCell ⟨X,0,none⟩ (.slice ao' (bn+1) cap')) X la ln lc l ao' (bn+1) cap' (bs++[y]):=by
 have hp:=h.b.push hb hy h.size hg hr;obtain ⟨h1,h2,h3,h4⟩:=(h.later hb).rows hg;have hgx:w2.grownBy (w2.setCell ⟨X,0,none⟩ (.slice ao' (bn+1) cap')) (some X):=zj 0 _;have hlt:=h.lt;refine ⟨h1,h4, ?_,ze h2 hgx (by intro k e; cases e; omega),hp.boxed h1 hgx,zt h3 hgx (zA h3 h1 (by decide)),h4.grown hgx h4.size (by intro k e; cases e; omega),hlt⟩
 have:=zB (j:=0) h1 (.slice ao' (bn+1) cap')
 simpa using this

theorem NnSt.put {w wr:World} {X:Nat} {la:Option Addr} {ln lc:Nat} {l:List LK} {g bn bc:Nat} {pre post:List BV} {x y:BV} (h:NnSt w wr X la ln lc l (some ⟨g,0,none⟩) bn bc (pre++x::post)) {w1 w2:World} (hb:Below wr.heap.size wr w1) (hy:y.Own w1 wr.heap.size) (hg:w1.grownBy w2 (some g)) (hr:w2.ownsRow (w.heap.size+1) 44 11 (.slice (some ⟨g,0,none⟩) bn bc) bn (brF.all (pre++y::post))) :
  NnSt w w2 X la ln lc l (some ⟨g,0,none⟩) bn bc (pre++y::post):=by
 have hp:=h.b.put hb hy h.size hg hr;obtain ⟨h1,h2,h3,h4⟩:=(h.later hb).rows (w':=w2) hg;exact ⟨h1,h2,hp,h3,h4,h.lt⟩

theorem NnSt.out {w wr:World} {X:Nat} {la:Option Addr} {ln lc:Nat} {l:List LK} {ba:Option Addr} {bn bc:Nat} {bs:List BV} (h:NnSt w wr X la ln lc l ba bn bc bs):zbH (((wr.setCell ⟨w.heap.size,0,none⟩ (.slice ba bn bc)).setCell ⟨w.heap.size,1,none⟩ (.slice la ln lc)).setCell ⟨w.heap.size,2,none⟩ (.slice none 0 0)) w.heap.size ⟨ba,bn,bc,bs,la,ln,lc,l,none,0,0,[]⟩∧Below w.heap.size w (((wr.setCell ⟨w.heap.size,0,none⟩ (.slice ba bn bc)).setCell ⟨w.heap.size,1,none⟩ (.slice la ln lc)).setCell ⟨w.heap.size,2,none⟩ (.slice none 0 0)) :=
 ⟨((zbH.apart (M:=⟨ba,bn,bc,bs,la,ln,lc,l,none,0,0,[]⟩) ⟨h.b,h.l,rfl,rfl,rfl,rfl⟩ (zI (zI (zj 0 _) (zj 1 _)) (zj 2 _)) (by omega)).lt (by omega)),zr (zr (zr h.below (Nat.le_refl _) 0 _) (Nat.le_refl _) 1 _) (Nat.le_refl _) 2 _⟩

structure NewIs (ids:List Int) (ports:Int) (l:List LK) (M:NV):Prop where
 yes:NetOk (newBs ids ports) l []→M.bs.map BV.B=upBs ids ports∧M.ls=l
 no:¬NetOk (newBs ids ports) l []→M.bs=[]∧M.ls=[]
def zkr (ids:List Int) (ports:Int) (l:List LK) (w:World) (e:Ending) (w':World):Prop:=∃M:NV,e=.returned (.agg #[.slice M.ba M.bn M.bc,.slice M.la M.ln M.lc,.slice M.sa M.sn M.sc])∧zbH w' w.heap.size M∧NewIs ids ports l M∧Below w.heap.size w w'

theorem zma {ids:List Int} {ports:Int} {l:List LK} {w w':World} (h:¬NetOk (newBs ids ports) l []) (hb:Below w.heap.size w w'):zkr ids ports l w (.returned (.agg #[.slice none 0 0,.slice none 0 0,.slice none 0 0])) w' :=
 ⟨⟨none,0,0,[],none,0,0,[],none,0,0,[]⟩,rfl,⟨zaT _ _,World.ownsRow_nil _ _ _ _,rfl,rfl,rfl,rfl⟩,⟨fun k=>absurd k h,fun _=>⟨rfl,rfl⟩⟩,hb⟩

theorem zez {ids:List Int} {ports:Int} {k:Nat} {id:Int} (h:ids[k]? = some id):newBs (ids.take (k+1)) ports=newBs (ids.take k) ports++[zn id ports]:=by
 unfold newBs;rw [List.take_add_one,h,List.map_append]
 rfl

theorem zlv {ids:List Int} {ports:Int} {k:Nat} {id:Int} (h:ids[k]? = some id):upBs (ids.take (k+1)) ports=upBs (ids.take k) ports++[raised (zn id ports)]:=by
 unfold upBs;rw [List.take_add_one,h,List.map_append]
 rfl

theorem zfM (ia:Option Addr) (im ic:Nat) (ids:List Int) (ports:Int) (la0:Option Addr) (ln lc0:Nat) (l:List LK) (w:World) (hI:IRow w ia im ic ids) (hL:GRow linkF w la0 ln lc0 l) (hs:ln≤1048576) (hm:im≤1048576) :
  Calls Tryz.prog 38 #[.slice ia im ic,.int .i64 ports,.slice la0 ln lc0] w fun e w'=>zkr ids ports l w e w':=by
 have hIs:=hI.size;generalize hw1:w.alloc (Obj.cells #[.slice none 0 0,.slice none 0 0,.slice none 0 0] 28)=w1;generalize hw2:w1.alloc (Obj.cells #[] 66)=w2;have b01:=zb hw1;have b12:=zb hw2;have z1:w1.heap.size=w.heap.size+1:=by rw [← hw1]; simp
 have k2:=zk hw2;have b02:=zc b01 b12;have kJ:=za (zk hw1) b12;have on:w2.ownsRow (w.heap.size+1) 66 linkF.k (.slice (some ⟨w1.heap.size,0,none⟩) 0 0) 0 (linkF.all []):=by
  have:=zaG linkF w1 w2 66 w1.heap.size k2 (Nat.le_refl _)
  rw [z1] at this ⊢;exact this
 have hz2:w.heap.size+1≤w2.heap.size:=by rw [← z1]; exact b12.size
 clear z1;go_enter Tryz.func38,Tryz.ntmps38;go_wp2_with (at_builtin; refine zK (F:=linkF) _ rfl _ _ 25 66 rfl (w.heap.size+1) Tryz.underlying25 zaQ rfl (by decide) _ 0 [] rfl on la0 ln lc0 l rfl (hL.below b02) (by omega) hz2 ?_)
 intro la lc w3 oL _ hg3 hb3
 try simp only [Nat.zero_add,List.nil_append] at oL
 try simp only [Nat.zero_add,List.nil_append]
 have kR3:=ze kJ hg3 (fun k hk=>by have:=(on.lt k hk).1; omega);have b03:Below w.heap.size w w3:=b02.trans (hb3.mono (by omega));clear hw1 hw2 b01 b12 k2 kJ on hz2 b02 hg3 hb3;go_wp2_with fail
 generalize hw4:w3.alloc (Obj.cells #[.slice none 0 0,.slice la ln lc,.slice none 0 0] 28)=w4;have b34:=zb hw4;have kX4:=zk hw4;have st0:NnSt w w4 w3.heap.size la ln lc l none 0 0 []:=⟨kX4,za kR3 b34,zaT _ _,zh oL b34,zc b03 b34,zaX kR3⟩;generalize hX:w3.heap.size=X at *;clear hw4 b34 kX4 kR3 b03 oL
 go_loopw [8] (fun i wr=>∃(k:Nat) (ba:Option Addr) (bc:Nat) (bs:List BV),k≤im∧i=.int .i64 k∧NnSt w wr X la ln lc l ba k bc bs∧bs.map BV.B=newBs (ids.take k) ports) (fun i _=>im - (intOf i).toNat)
 case atStart=>exact ⟨0,none,0,[],Nat.zero_le _,rfl,st0,by simp [newBs]⟩
 case round =>
  obtain ⟨k,ba,bc,bs,hk,rfl,st,hM⟩:=hrel;clear st0;by_cases hlt:k < im
  ·obtain ⟨id,ib,io,hid,rfl,ci⟩:=ziv hI k hlt;have i1:(0:Int)≤(k:Int):=by omega
   have i2:(k:Int) < (im:Int):=by omega
   have HI:=hide hid;have HM:=hide hM;have vv:Below wr.heap.size wr wr.drew:=zq (Below.refl _ _);have uu:Below w.heap.size w wr.drew:=zc st.below vv;have x0:=(zd (za st.box vv)).1;clear hid hM;(go_wp2_with fail);refine wp_region_held_drew (S:=(fun W=>zcc W ib (io+k) (.int .i64 id))) (by kernel_rfl) ((uu.cell (zp ci)).trans ci) (fun hHeld => ?_);refine kK 0 ?_;refine kK 2 ?_;refine kK 3 ?_;refine kK 4 ?_;refine kK 5 ?_;refine kK 6 ?_;refine tR [1,7] ?_;refine kC (fun K hK => ?_) ?_
   ·go_simp;refine kO hK ((uu.cell (zp ci)).trans ci) fun hHeld => ?_
    clear hK K;refine kR 7 fun K hK => ?_
    go_simp;refine (zfN id ports _).mono ?_;rintro e wz ⟨a2,n2,c2,fa2,fn2,fc2,ra2,rn2,rc2,oa2,on2,oc2,rfl,ow2,hbz⟩;have ow2:=BrOwn.lt ow2 (base':=wr.heap.size) vv.size;have vv:=zc vv hbz;have uu:=zc st.below vv;have x0:=(zd (za st.box vv)).1;(go_wp2_with fail);refine kO hK ((uu.cell (zp ci)).trans ci) fun hHeld => ?_
    clear hK K;refine kR 8 fun K hK => ?_
    go_simp
    first
    | refine zw (K:=K _) (fun wx kY hbx => ?_)
    | refine zo (K:=K _) (fun wx kY hbx => ?_)
    have gz:=vv.size;have ow2:=BrOwn.below ow2 hbx;have vv:=zc vv hbx;have uu:=zc st.below vv;have x0:=(zd (za st.box vv)).1;clear hbx;refine kO hK ((uu.cell (zp ci)).trans ci) fun hHeld => ?_
    clear hK K;refine kR 9 fun K hK => ?_
    have gn1:GRow brF wx (some ⟨_,0,none⟩) 1 1 [(⟨a2,n2,c2,fa2,fn2,fc2,ra2,rn2,rc2,oa2,on2,oc2,(zn id ports)⟩:BV)]:=zC (F:=brF) (zaV brF (base:=0) (l:=[(⟨a2,n2,c2,fa2,fn2,fc2,ra2,rn2,rc2,oa2,on2,oc2,(zn id ports)⟩:BV)]) kY rfl (Nat.zero_le _) (by simp));have hoN:=st.b.below vv;refine zi (F:=brF) rfl _ _ 24 44 rfl (w.heap.size+1) Tryz.underlying24 zds rfl (by decide) _ k bs rfl hoN.row _ 1 1 _ rfl gn1 (by omega) (Nat.le_trans st.size vv.size) ?_;intro aL cL wL how _ hgr hbL;obtain ⟨kX,uu,stN⟩:=st.push (y:=(⟨a2,n2,c2,fa2,fn2,fc2,ra2,rn2,rc2,oa2,on2,oc2,(zn id ports)⟩:BV)) vv ow2 hgr how;have x0:=(zd kX).1;have fz:=zf kX 0;refine kO hK ((uu.cell (zp ci)).trans ci) fun hHeld => ?_
    clear hK K;refine kK 10 ?_;refine kR 11 fun K hK => ?_
    go_simp;have uu:=stN.below;refine kO hK ((uu.cell (zp ci)).trans ci) fun hHeld => ?_
    clear hK K;refine wpAnyH_done (by kernel_rfl) ?_ _;have HST:=hide stN;clear hHeld how hgr hbL hoN kX uu x0 fz kY gn1 ow2 vv;go_wp2
    go_roundw
    case rel=>exact ⟨k+1,aL,cL,_,by omega,by go_num,HST.out,by rw [List.map_append,HM.out,zez HI.out]; rfl⟩
    case measure=>simp [intOf]; omega
   refine kC (fun K hK => ?_) ?_
   ·go_simp;refine (zfN id ports _).mono ?_;rintro e wz ⟨a2,n2,c2,fa2,fn2,fc2,ra2,rn2,rc2,oa2,on2,oc2,rfl,ow2,hbz⟩;have ow2:=BrOwn.lt ow2 (base':=wr.heap.size) vv.size;have vv:=zc vv hbz;have uu:=zc st.below vv;have x0:=(zd (za st.box vv)).1;(go_wp2_with fail);refine kO hK ((uu.cell (zp ci)).trans ci) fun hHeld => ?_
    clear hK K;refine tR [1,8] ?_;refine kC (fun K hK => ?_) ?_
    ·go_simp;refine kO hK ((uu.cell (zp ci)).trans ci) fun hHeld => ?_
     clear hK K;refine kR 8 fun K hK => ?_
     go_simp
     first
     | refine zw (K:=K _) (fun wx kY hbx => ?_)
     | refine zo (K:=K _) (fun wx kY hbx => ?_)
     have gz:=vv.size;have ow2:=BrOwn.below ow2 hbx;have vv:=zc vv hbx;have uu:=zc st.below vv;have x0:=(zd (za st.box vv)).1;clear hbx;refine kO hK ((uu.cell (zp ci)).trans ci) fun hHeld => ?_
     clear hK K;refine kR 9 fun K hK => ?_
     have gn1:GRow brF wx (some ⟨_,0,none⟩) 1 1 [(⟨a2,n2,c2,fa2,fn2,fc2,ra2,rn2,rc2,oa2,on2,oc2,(zn id ports)⟩:BV)]:=zC (F:=brF) (zaV brF (base:=0) (l:=[(⟨a2,n2,c2,fa2,fn2,fc2,ra2,rn2,rc2,oa2,on2,oc2,(zn id ports)⟩:BV)]) kY rfl (Nat.zero_le _) (by simp));have hoN:=st.b.below vv;refine zi (F:=brF) rfl _ _ 24 44 rfl (w.heap.size+1) Tryz.underlying24 zds rfl (by decide) _ k bs rfl hoN.row _ 1 1 _ rfl gn1 (by omega) (Nat.le_trans st.size vv.size) ?_;intro aL cL wL how _ hgr hbL;obtain ⟨kX,uu,stN⟩:=st.push (y:=(⟨a2,n2,c2,fa2,fn2,fc2,ra2,rn2,rc2,oa2,on2,oc2,(zn id ports)⟩:BV)) vv ow2 hgr how;have x0:=(zd kX).1;have fz:=zf kX 0;refine kO hK ((uu.cell (zp ci)).trans ci) fun hHeld => ?_
     clear hK K;refine kK 10 ?_;refine kR 11 fun K hK => ?_
     go_simp;have uu:=stN.below;refine kO hK ((uu.cell (zp ci)).trans ci) fun hHeld => ?_
     clear hK K;refine wpAnyH_done (by kernel_rfl) ?_ _;have HST:=hide stN;clear hHeld how hgr hbL hoN kX uu x0 fz kY gn1 ow2 vv;go_wp2
     go_roundw
     case rel=>exact ⟨k+1,aL,cL,_,by omega,by go_num,HST.out,by rw [List.map_append,HM.out,zez HI.out]; rfl⟩
     case measure=>simp [intOf]; omega
    refine kC (fun K hK => ?_) ?_
    ·go_simp
     first
     | refine zw (K:=K _) (fun wx kY hbx => ?_)
     | refine zo (K:=K _) (fun wx kY hbx => ?_)
     have gz:=vv.size;have ow2:=BrOwn.below ow2 hbx;have vv:=zc vv hbx;have uu:=zc st.below vv;have x0:=(zd (za st.box vv)).1;clear hbx;refine kO hK ((uu.cell (zp ci)).trans ci) fun hHeld => ?_
     clear hK K;refine kR 1 fun K hK => ?_
     go_simp;refine kO hK ((uu.cell (zp ci)).trans ci) fun hHeld => ?_
     clear hK K;refine kR 9 fun K hK => ?_
     have gn1:GRow brF wx (some ⟨_,0,none⟩) 1 1 [(⟨a2,n2,c2,fa2,fn2,fc2,ra2,rn2,rc2,oa2,on2,oc2,(zn id ports)⟩:BV)]:=zC (F:=brF) (zaV brF (base:=0) (l:=[(⟨a2,n2,c2,fa2,fn2,fc2,ra2,rn2,rc2,oa2,on2,oc2,(zn id ports)⟩:BV)]) kY rfl (Nat.zero_le _) (by simp));have hoN:=st.b.below vv;refine zi (F:=brF) rfl _ _ 24 44 rfl (w.heap.size+1) Tryz.underlying24 zds rfl (by decide) _ k bs rfl hoN.row _ 1 1 _ rfl gn1 (by omega) (Nat.le_trans st.size vv.size) ?_;intro aL cL wL how _ hgr hbL;obtain ⟨kX,uu,stN⟩:=st.push (y:=(⟨a2,n2,c2,fa2,fn2,fc2,ra2,rn2,rc2,oa2,on2,oc2,(zn id ports)⟩:BV)) vv ow2 hgr how;have x0:=(zd kX).1;have fz:=zf kX 0;refine kO hK ((uu.cell (zp ci)).trans ci) fun hHeld => ?_
     clear hK K;refine kK 10 ?_;refine kR 11 fun K hK => ?_
     go_simp;have uu:=stN.below;refine kO hK ((uu.cell (zp ci)).trans ci) fun hHeld => ?_
     clear hK K;refine wpAnyH_done (by kernel_rfl) ?_ _;have HST:=hide stN;clear hHeld how hgr hbL hoN kX uu x0 fz kY gn1 ow2 vv;go_wp2
     go_roundw
     case rel=>exact ⟨k+1,aL,cL,_,by omega,by go_num,HST.out,by rw [List.map_append,HM.out,zez HI.out]; rfl⟩
     case measure=>simp [intOf]; omega
    exact AllReadyH.nil
   exact AllReadyH.nil
  ·have hkn:k=im:=by omega
   rw [List.take_of_length_le (by omega)] at hM;subst hkn;obtain ⟨x0,x1,x2⟩:=zd st.box;have hN:zaa wr ⟨ba,k,bc,bs,la,ln,lc,l,none,0,0,[]⟩:=⟨st.b.grow,fun x hx=>(st.b.item x hx).row,zC (F:=linkF) st.l,zdh _ _⟩;(go_wp2_with fail);refine (zeo ⟨ba,k,bc,bs,la,ln,lc,l,none,0,0,[]⟩ _ hN (show ln≤16777216 by omega)).mono ?_;rintro e w6 ⟨q,rfl,hq,hb6⟩;have hq2:q=true↔NetOk (newBs ids ports) l []:=by rw [← hM]; exact hq
   clear hq;have st:=st.later hb6;clear x0 x1 x2 hN hb6;cases q
   ·have hno:¬NetOk (newBs ids ports) l []:=fun h=>by have:=hq2.2 h; cases this
    have HNO:=hide hno;clear hq2 hno;obtain ⟨r0,r1,r2⟩:=zd st.res;have f0:=zf st.res 0;have f1:=zf st.res 1;have f2:=zf st.res 2;have HB:=hide (zr (zr (zr st.below (Nat.le_refl _) 0 (.slice none 0 0)) (Nat.le_refl _) 1 (.slice none 0 0)) (Nat.le_refl _) 2 (.slice none 0 0));go_wp2
    all_goals first | (exfalso; rename_i hf; first | (rw [f0] at hf; cases hf) | (rw [f1] at hf; cases hf) | (rw [f2] at hf; cases hf)) | skip
    exact bodyPost_ret (v:=.agg #[.slice none 0 0,.slice none 0 0,.slice none 0 0]) (by simp [results,Tryz.results38,go_sem, *]) rfl (zma HNO.out HB.out)
   ·have hyes:=hq2.1 rfl;clear hq2;have HYES:=hide hyes;have hlen:bs.length=k:=st.b.grow.size;have hbz:∀(i:Nat) (x:BV),bs[i]? = some x→∃id,ids[i]? = some id∧x.B=zn id ports:=fun i x hx=>by
     have:(newBs ids ports)[i]? = some x.B:=by rw [← hM,List.getElem?_map,hx]; rfl
     exact zdl this
    have hkpos:0 < k:=by
     have:=hyes.1.2.2.1
     rw [← hM] at this
     simp at this
     omega
    obtain ⟨m,hpm⟩:∃m:Nat,ports=(m:Int):=by
     obtain ⟨x,hx⟩:∃x,bs[0]? = some x:=⟨_,List.getElem?_eq_getElem (by omega)⟩;obtain ⟨id,hid,hB⟩:=hbz 0 x hx;exact ⟨_,(zaI id ports).2.2.2.2.2 (hyes.1.1 _ (List.mem_of_getElem? (zcF hid)))⟩
    subst hpm;have hpl:∀id,ids.contains id=true→(zn id (m:Int)).ports.length=m:=fun id hid=>by
     have hmem:id∈ids:=by simpa using hid
     obtain ⟨i,hi⟩:=List.getElem?_of_mem hmem
     have:=(zaI id (m:Int)).2.2.2.2.2 (hyes.1.1 _ (List.mem_of_getElem? (zcF hi)))
     omega
    have hm6:m≤6:=by
     obtain ⟨x,hx⟩:∃x,bs[0]? = some x:=⟨_,List.getElem?_eq_getElem (by omega)⟩;obtain ⟨id,hid,hB⟩:=hbz 0 x hx;have h1:=hpl id (by simpa using List.mem_of_getElem? hid);have h2:=(zcZ id (m:Int)).2.1;omega
    obtain ⟨g,off,hba,hoff⟩:∃g off,ba=some ⟨g,off,none⟩∧off=0:=by
     rcases st.b.row.2 with ⟨e,h0⟩ | ⟨g,cap',cur,e,_⟩
     ·omega
     ·cases e; exact ⟨g,0,rfl,rfl⟩
    subst hoff hba;have HPL:=hide hpl;have HM:=hide hM;have HLEN:=hide hlen;have HIS:=hide hIs;have HKP:=hide hkpos;clear hM hlen hIs hkpos hlt hk;have HBZ:=hide hbz;obtain ⟨x0,x1,x2⟩:=zd st.box;clear hyes hbz hpl;(go_wp2_with fail);clear x0 x1 x2
    go_loopw [9] (fun i wr=>∃(j:Nat) (cs:List BV),j≤k∧i=.int .i64 j∧NnSt w wr X la ln lc l (some ⟨g,0,none⟩) k bc cs∧cs.map BV.B=upBs (ids.take j) (m:Int)++(bs.drop j).map BV.B) (fun i _=>k - (intOf i).toNat)
    case atStart=>exact ⟨0,bs,Nat.zero_le _,rfl,st,by simp [upBs]⟩
    case round =>
     obtain ⟨j,cs,hj,rfl,st,hC⟩:=hrel;have hcl:cs.length=k:=st.b.grow.size;have hlen:=HLEN.out;have hIs:=HIS.out;obtain ⟨x0,x1,x2⟩:=zd st.box;by_cases hlt:j < k
     ·obtain ⟨y,hy⟩:∃y,bs[j]? = some y:=⟨_,List.getElem?_eq_getElem (by omega)⟩;obtain ⟨id,hid,hB⟩:=HBZ.out j y hy;have hul:(upBs (ids.take j) (m:Int)).length=j:=by simp [upBs]; omega
      have hdr:bs.drop j=y::bs.drop (j+1):=by
       obtain ⟨h,rfl⟩:=List.getElem?_eq_some_iff.1 hy;exact List.drop_eq_getElem_cons h
      rw [hdr,List.map_cons,hB] at hC;obtain ⟨x,hx⟩:∃x,cs[j]? = some x:=⟨_,List.getElem?_eq_getElem (by omega)⟩;have hsp:cs=cs.take j++x::cs.drop (j+1):=by
       obtain ⟨h,rfl⟩:=List.getElem?_eq_some_iff.1 hx;rw [← List.drop_eq_getElem_cons h,List.take_append_drop]
      have hpre:(cs.take j).map BV.B=upBs (ids.take j) (m:Int):=by
       have:=congrArg (List.take j) hC
       rw [← List.map_take,List.take_left' hul] at this;exact this
      have hxB:x.B=zn id (m:Int):=by
       have h1:(cs.map BV.B)[j]? = some x.B:=by rw [List.getElem?_map,hx]; rfl
       rw [hC,List.getElem?_append_right (by omega),hul,Nat.sub_self] at h1;exact (Option.some.inj h1).symm
      have hpost:(cs.drop (j+1)).map BV.B=(bs.drop (j+1)).map BV.B:=by
       have:=congrArg (List.drop (j+1)) hC
       rw [← List.map_drop] at this;have hd0:List.drop (j+1) (upBs (ids.take j) (m:Int))=[]:=List.drop_eq_nil_of_le (by omega);rw [this,List.drop_append,hd0,List.nil_append,hul,show j+1 - j=1 by omega]
       rfl
      have hpm:=HPL.out id (by simpa using List.mem_of_getElem? hid);have HPL2:Hid ((cs.take j).length=j):=hide (by rw [List.length_take]; omega);have HPRE:=hide hpre;have HPOST:=hide hpost;have HID:=hide hid;have HPM:=hide hpm;rw [hsp] at st;generalize hpr:cs.take j=pre at *;generalize hpo:cs.drop (j+1)=post at *;clear hy hid hB hdr hC hx hsp hpre hpost hpm hcl hpr hpo hul hlen hIs;(go_wp2_with fail);clear x0 x1 x2
      go_loopw [10] (fun i wr=>∃(p:Nat) (x:BV),p≤m∧i=.int .i64 p∧x.B=zaW (zn id (m:Int)) p∧NnSt w wr X la ln lc l (some ⟨g,0,none⟩) k bc (pre++x::post)) (fun i _=>m - (intOf i).toNat)
      case atStart=>exact ⟨0,x,Nat.zero_le _,rfl,hxB,st⟩
      case round =>
       clear st hxB x;obtain ⟨p,x,hp,rfl,hxB,st⟩:=hrel;by_cases hpm:p < m
       ·have HAT:Hid ((pre++x::post)[j]? = some x):=hide (by rw [List.getElem?_append_right (by have:=HPL2.out; omega),HPL2.out,Nat.sub_self]; rfl);have hx:=st.b.item x (by simp);have HSM:Hid (x.n≤1048576∧x.fn≤1048576∧x.rn≤1048576∧x.on≤1048576):=hide (by
         have e1:=hx.row.ports.size;have e2:=hx.row.f.size;have e3:=hx.row.v.rows.size;have e4:=hx.row.v.own.size;have l1:=zeK (zn id (m:Int)) p;have l2:=zcZ id (m:Int);rw [hxB] at e1 e2 e3 e4;obtain ⟨l3,l4,l5⟩:=l1;rw [l5] at e3 e4;omega)
        have HXB:Hid (linkB x.B (p:Int) true=zaW (zn id (m:Int)) (p+1)):=hide (by rw [hxB]; rfl);have i1:(0:Int)≤(j:Int):=by omega
        have i2:(j:Int) < (k:Int):=by omega
        have i3:(p:Int) < (m:Int):=by omega
        have vv:Below wr.heap.size wr wr.drew:=zq (Below.refl _ _);have kX:=za st.box vv;obtain ⟨⟨ca0,ca1,ca2,ca3,ca4,ca5,ca6,ca7,ca8,ca9,ca10⟩,-⟩:=zal (st.b.below vv).row HAT.out;clear hxB;(go_wp2_with fail);refine wp_region_held_drew (S:=(fun W=>zcc W X 0 (.slice (some ⟨g,0,none⟩) k bc)∧zcc W X 1 (.slice la ln lc)∧zcc W X 2 (.slice none 0 0))) (by kernel_rfl) (zd kX) (fun hHeld => ?_);refine kK 0 ?_;refine kK 1 ?_;refine kK 2 ?_;refine kK 3 ?_;refine kK 4 ?_;refine kK 5 ?_;refine kK 6 ?_;refine kK 8 ?_;refine kR 7 fun K hK => ?_
        go_simp;refine kO hK (zd kX) fun hHeld => ?_
        clear hK K;refine kR 9 fun K hK => ?_
        go_simp;refine (zcL x.a x.n x.c x.fa x.fn x.fc x.ra x.rn x.rc x.oa x.on x.oc x.B (p:Int) true _ ((hx.row).below vv) HSM.out.1 HSM.out.2.1 HSM.out.2.2.1 HSM.out.2.2.2).mono ?_;rintro e wz ⟨a2,n2,c2,fa2,fn2,fc2,ra2,rn2,rc2,oa2,on2,oc2,rfl,ow2,hbz⟩;have ow2:=BrOwn.lt ow2 (base':=wr.heap.size) vv.size;have vv:=zc vv hbz;have kX:=za st.box vv;have hrow:=(st.b.below vv).row;obtain ⟨⟨t0,t1,t2,t3,t4,t5,t6,t7,t8,t9,t10⟩,f0,f1,f2,f3,f4,f5,f6,f7,f8,f9,f10⟩:=zal hrow HAT.out;(go_wp2_with fail);refine kO hK (zd kX) fun hHeld => ?_
        clear hK K;refine kK 10 ?_;refine kR 11 fun K hK => ?_
        go_simp;refine zbi (⟨a2,n2,c2,fa2,fn2,fc2,ra2,rn2,rc2,oa2,on2,oc2,(linkB x.B (p:Int) true)⟩:BV) HPL2.out (K:=K _) hrow (fun wq hq hgq => ?_);have stN:=st.put (y:=(⟨a2,n2,c2,fa2,fn2,fc2,ra2,rn2,rc2,oa2,on2,oc2,(linkB x.B (p:Int) true)⟩:BV)) vv ow2 hgq hq;have kX:=stN.box;refine kO hK (zd kX) fun hHeld => ?_
        clear hK K;refine wpAnyH_done (by kernel_rfl) ?_ _;have HST:=hide stN;clear hHeld kX hq hgq hrow ow2 vv;go_wp2
        go_roundw
        case rel=>exact ⟨p+1,_,by omega,by go_num,HXB.out,HST.out⟩
        case measure=>simp [intOf]; omega
       ·have hpx:p=m:=by omega
        have HC:Hid ((pre++x::post).map BV.B=upBs (ids.take (j+1)) (m:Int)++(bs.drop (j+1)).map BV.B):=hide (by
         rw [List.map_append,List.map_cons,HPRE.out,HPOST.out,hxB,zlv HID.out,List.append_assoc]
         have:zaW (zn id (m:Int)) p=raised (zn id (m:Int)):=by unfold raised; rw [HPM.out,hpx]
         rw [this]
         rfl)
        have HST:=hide st;clear st hxB;go_wp2
        go_roundw
        case rel=>exact ⟨j+1,_,by omega,by go_num,HST.out,HC.out⟩
        case measure=>simp [intOf]; omega
     ·have hjk:j=k:=by omega
      have hup:cs.map BV.B=upBs ids (m:Int):=by
       rw [hC,List.drop_eq_nil_of_le (by omega),List.take_of_length_le (by omega)]
       simp
      have HUP:=hide hup;obtain ⟨r0,r1,r2⟩:=zd st.res;have f0:=zf st.res 0;have f1:=zf st.res 1;have f2:=zf st.res 2;have ne1:¬w.heap.size=X:=by have:=st.lt; omega
      have ne2:¬X=w.heap.size:=by have:=st.lt; omega
      have HO:=hide st.out.1;have HB:=hide st.out.2;clear hup hC st hlen hIs hcl hjk;go_wp2
      all_goals first | (exfalso; rename_i hf; first | (rw [f0] at hf; cases hf) | (rw [f1] at hf; cases hf) | (rw [f2] at hf; cases hf)) | skip
      exact bodyPost_ret (v:=.agg #[.slice (some ⟨g,0,none⟩) k bc,.slice la ln lc,.slice none 0 0]) (by simp [results,Tryz.results38,go_sem, *]) rfl (show zkr ids (m:Int) l w _ _ from ⟨⟨some ⟨g,0,none⟩,k,bc,cs,la,ln,lc,l,none,0,0,[]⟩,rfl,HO.out,⟨fun _=>⟨HUP.out,rfl⟩,fun h=>absurd HYES.out h⟩,HB.out⟩)

end Go.Proofs.YtkaefmfopejbaaaGreat
