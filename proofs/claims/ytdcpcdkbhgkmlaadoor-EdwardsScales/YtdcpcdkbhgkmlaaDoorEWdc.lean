import Derived.Test.YtdcpcdkbhgkmlaaDoorProg
import Derived.WalkKit
import Derived.WalkSpells
import Derived.WalkLawsBesides
import Derived.Lib.QuietBelow
import Derived.BigQuiet
import Derived.Test.YtdcpcdkbhgkmlaaDoorEKa
import Derived.Test.YtdcpcdkbhgkmlaaDoorEGq
import Derived.OwnWalk
import Derived.Test.YtdcpcdkbhgkmlaaDoorEDwc
import Derived.Deep.Cut
import Derived.Test.YtdcpcdkbhgkmlaaDoorEDrb
namespace Go.Proofs.YtdcpcdkbhgkmlaaDoor.Wi
set_option maxRecDepth 100000
open Go Go.RowKit Go.Sort
attribute [local go_sem] setCell_drewN alloc_drewN
def kl:List Int:=[4794697086780616226,8158064640168781261,13096744586834688815,16840607885511220156,4131703408338449720,6480981068601479193,10538285296894168987,12329834152419229976,15566598209576043074,1334009975649890238,2608012711638119052,6128411473006802146,8268148722764581231,9286055187155687089,11230858885718282805,13951009754708518548,16472876342353939154,17275323862435702243,1135362057144423861,2597628984639134821,3308224258029322869,5365058923640841347,6679025012923562964,8573033837759648693,10970295158949994411,12119686244451234320,12683024718118986047,13788192230050041572,14330467153632333762,15395433587784984357,489312712824947311,1452737877330783856,2861767655752347644,3322285676063803686,5560940570517711597,5996557281743188959,7280758554555802590,8532644243296465576,9350256976987008742,10552545826968843579,11727347734174303076,12113106623233404929,14000437183269869457,14369950271660146224,15101387698204529176,15463397548674623760,17586052441742319658,1182934255886127544,1847814050463011016,2177327727835720531,2830643537854262169,3796741975233480872,4115178125766777443,5681478168544905931,6601373596472566643,7507060721942968483,8399075790359081724,8693463985226723168,9568029438360202098,10144078919501101548,10430055236837252648,11840083180663258601,13761210420658862357,14299343276471374635,14566680578165727644,15097957966210449927,16922976911328602910,17689382322260857208,500013540394364858,748580250866718886,1242879168328830382,1977374033974150939,2944078676154940804,3659926193048069267,4368137639120453308,4836135668995329356,5532061633213252278,6448918945643986474,6902733635092675308,7801388544844847127]
def sl:List Int:=[7640891576956012808,13503953896175478587,4354685564936845355,11912009170470909681,5840696475078001361,11170449401992604703,2270897969802886507,6620516959819538809]
structure St8 where
 (a b c d e f g h:Int)
def notx (x:Int):Int:=bits .xor .u64 IntKind.u64.max x
def wp (x:Int):Int:=IntKind.u64.wrap x
def one1 (k w:Int) (s:St8):Int:=IntKind.u64.wrap (IntKind.u64.wrap (IntKind.u64.wrap (IntKind.u64.wrap (s.h+up1 s.e)+bits .xor .u64 (bits .and .u64 s.e s.f) (bits .and .u64 (notx s.e) s.g))+k)+w)
def two2 (s:St8):Int:=IntKind.u64.wrap (up0 s.a+bits .xor .u64 (bits .xor .u64 (bits .and .u64 s.a s.b) (bits .and .u64 s.a s.c)) (bits .and .u64 s.b s.c))
def rnd (k w:Int) (s:St8):St8:=⟨IntKind.u64.wrap (one1 k w s+two2 s),s.a,s.b,s.c,IntKind.u64.wrap (s.d+one1 k w s),s.e,s.f,s.g⟩
def st0 (h:List Int):St8:=⟨h.getD 0 0,h.getD 1 0,h.getD 2 0,h.getD 3 0,h.getD 4 0,h.getD 5 0,h.getD 6 0,h.getD 7 0⟩
def rs (h:List Int) (W:Nat→Int):Nat→St8
 |0=>st0 h
 |t+1=>rnd (kl.getD t 0) (W t) (rs h W t)
def St8.list (s:St8):List Int:=[s.a,s.b,s.c,s.d,s.e,s.f,s.g,s.h]
def St8.ok (s:St8):Prop:=∀x∈s.list,0≤x∧x<18446744073709551616
end Go.Proofs.YtdcpcdkbhgkmlaaDoor.Wi
namespace Go.Proofs.YtdcpcdkbhgkmlaaDoor.Wi
set_option maxRecDepth 100000
open Go Go.RowKit Go.Sort
attribute [local go_sem] setCell_drewN alloc_drewN
def sums (h e:List Int) (k:Nat):List Int:=(List.range 8).map fun j=>if j<k then IntKind.u64.wrap (h.getD j 0+e.getD j 0) else h.getD j 0
def blk (h b:List Int):List Int:=sums h (rs h (wds b) 80).list 8
end Go.Proofs.YtdcpcdkbhgkmlaaDoor.Wi
namespace Go.Proofs.YtdcpcdkbhgkmlaaDoor.Wi
set_option maxRecDepth 100000
open Go Go.RowKit Go.Sort
attribute [local go_sem] setCell_drewN alloc_drewN
def pk64 (W:Nat→Int) (t:Nat):List Int:=(List.range 64).map fun j=>if j<t then W j else 0
def prq (W:Nat→Int) (t:Nat):List Int:=(List.range 128).map fun j=>if j<t then W j else 0
def bte (h:List Int) (j:Nat):Int:=h.getD (j/8) 0/2^(56-8*(j%8))%256
def byts (h:List Int):List Int:=pk64 (bte h) 64
end Go.Proofs.YtdcpcdkbhgkmlaaDoor.Wi
namespace Go.Proofs.YtdcpcdkbhgkmlaaDoor.Wi
set_option maxRecDepth 100000
open Go Go.RowKit Go.Sort
attribute [local go_sem] setCell_drewN alloc_drewN
def plen (n:Nat):Nat:=17+(239-n%128)%128
def pbit (n i:Nat):Int:=((8*n/2^(8*i)%256:Nat):Int)
def padP (n k:Nat):List Int:=(List.range (plen n)).map fun j=>if j=0 then 128 else if plen n-k≤j∨(plen n-8-k≤j∧j<plen n-8) then pbit n (plen n-1-j) else 0
def padL (n:Nat):List Int:=padP n 8
end Go.Proofs.YtdcpcdkbhgkmlaaDoor.Wi
namespace Go.Proofs.YtdcpcdkbhgkmlaaDoor.Wi
set_option maxRecDepth 100000
open Go Go.RowKit Go.Sort
def wat (bs:List Int) (q i:Nat):Int:=bs.getD (128*q+i) 0
def chunk (bs:List Int) (k:Nat):List Int:=prq (wat bs k) 128
def fol (h bs:List Int):Nat→List Int
 |0=>h
 |k+1=>blk (fol h bs k) (chunk bs k)
def hcells (ws ps:List Int) (sz:Int):Array Value:=(ws.map (Value.int .u64)++(ps.map (Value.int .u8)++[Value.int .u64 sz])).toArray
def hwords (bs:List Int):List Int:=fol sl bs (bs.length/128)
def hpart (bs:List Int):List Int:=prq (wat bs (bs.length/128)) (bs.length%128)
def hst (bs:List Int):Array Value:=hcells (hwords bs) (hpart bs) (bs.length:Int)
end Go.Proofs.YtdcpcdkbhgkmlaaDoor.Wi
namespace Go.Proofs.YtdcpcdkbhgkmlaaDoor.Wi
set_option maxRecDepth 100000
open Go Go.RowKit Go.Sort
attribute [local go_sem] setCell_drewN alloc_drewN
end Go.Proofs.YtdcpcdkbhgkmlaaDoor.Wi
namespace Go.Proofs.YtdcpcdkbhgkmlaaDoor.Wi
set_option maxRecDepth 100000
open Go Go.RowKit Go.Sort
attribute [local go_sem] setCell_drewN alloc_drewN
end Go.Proofs.YtdcpcdkbhgkmlaaDoor.Wi
namespace Go.Proofs.YtdcpcdkbhgkmlaaDoor.Wi
set_option maxRecDepth 100000
open Go Go.RowKit Go.Sort
attribute [local go_sem] setCell_drewN alloc_drewN
end Go.Proofs.YtdcpcdkbhgkmlaaDoor.Wi
namespace Go.Proofs.YtdcpcdkbhgkmlaaDoor.Wi
set_option maxRecDepth 100000
open Go Go.RowKit Go.Sort
attribute [local go_sem] setCell_drewN alloc_drewN
end Go.Proofs.YtdcpcdkbhgkmlaaDoor.Wi
namespace Go.Proofs.YtdcpcdkbhgkmlaaDoor.Wi
set_option maxRecDepth 100000
open Go Go.RowKit Go.Sort
attribute [local go_sem] setCell_drewN alloc_drewN
def sumW (bs:List Int):List Int:=fol sl (bs++padL bs.length) ((bs++padL bs.length).length/128)
def sumL (bs:List Int):List Int:=byts (sumW bs)
end Go.Proofs.YtdcpcdkbhgkmlaaDoor.Wi
namespace Go.Proofs.YtdcpcdkbhgkmlaaDoor.Wi
set_option maxRecDepth 100000
open Go Go.RowKit Go.Sort
attribute [local go_sem] setCell_drewN alloc_drewN
end Go.Proofs.YtdcpcdkbhgkmlaaDoor.Wi
namespace Go.Proofs.YtdcpcdkbhgkmlaaDoor.Wi
set_option maxRecDepth 100000
open Go Go.RowKit Go.Sort
attribute [local go_sem] setCell_drewN alloc_drewN
end Go.Proofs.YtdcpcdkbhgkmlaaDoor.Wi
namespace Go.Proofs.YtdcpcdkbhgkmlaaDoor.Wi
set_option maxRecDepth 100000
open Go Go.RowKit Go.Sort
attribute [local go_sem] setCell_drewN alloc_drewN
end Go.Proofs.YtdcpcdkbhgkmlaaDoor.Wi
namespace Go.Proofs.YtdcpcdkbhgkmlaaDoor
set_option maxRecDepth 100000
def nbr (bs:List Int):Int:=(bval (Wi.sumL bs):Int)%L19
def chl (R A:Int) (b:List Int):Int:=nbr (b32 R++(b32 A++b))
def back (P:E1) (b:List Int) (R S:Int):E1:=pl (ml S.toNat bp) (ng (ml (chl R (pb P) b).toNat P))
end Go.Proofs.YtdcpcdkbhgkmlaaDoor
namespace Go.Proofs.YtdcpcdkbhgkmlaaDoor
set_option maxRecDepth 100000
open Go Go.RowKit Go.Sort
attribute [local go_sem] setCell_drewN alloc_drewN
def Sgn (w:World):Prop:=Edw w∧Ord w
theorem Sgn.below {w w':World} (h:Sgn w) (hb:Below w.heap.size w w'):Sgn w':=⟨h.1.below hb,h.2.below hb⟩
theorem Sgn.alloc {w:World} (h:Sgn w) (o:Obj):Sgn (w.alloc o):=h.below ((Below.refl _ _).alloc (Nat.le_refl _) _)
theorem Sgn.four {w:World} (h:Sgn w):Four w:=h.1.1.1
def GivesS (f:FuncId) (args:Array Value) (v:Value):Prop:=∀W,Sgn W→Calls Tryd.prog f args W fun e w'=>e=.returned v∧Below W.heap.size W w'
theorem GivesS.at {f:FuncId} {args:Array Value} {v:Value} (h:GivesS f args v) {W:World} (hW:Sgn W):Calls Tryd.prog f args W fun e w'=>e=.returned v∧Below W.heap.size W w':=h W hW
theorem GivesS.re {f:FuncId} {args:Array Value} {v:Value} (h:GivesS f args v) {w:World} {d:Nat} {os:Array Obj} (hw:Sgn w):Calls Tryd.prog f args (grow (redrawn w d) os) fun e w''=>e=.returned v∧∃p:Regrown,w''=grow (redrawn w p.d) p.os:=Calls.regrown_of (h _ (hw.below (below_regrown w d os)))
def BysK (W:World) (v:Value) (bs:List Int):Prop:=Bys W v bs∧(∀a l c,v=.slice a l c→l≤c)∧bs.length≤4611686018427380000
theorem BysK.keep {W W':World} {v:Value} {bs:List Int} (h:BysK W v bs) (hb:Below W.heap.size W W'):BysK W' v bs:=⟨h.1.keep hb,h.2.1,h.2.2⟩
end Go.Proofs.YtdcpcdkbhgkmlaaDoor
namespace Go.Proofs.YtdcpcdkbhgkmlaaDoor
set_option maxRecDepth 100000
open Go.RowKit Go.Sort
attribute [local go_sem] setCell_drewN alloc_drewN
theorem n5:¬Zp 5:=by unfold Zp;decide
theorem base_aux {y z:Int} (h1:Zp (5*y-4)) (h2:Zp (5*z-1)):Zp (4*z-y):=zp_lin2 (-z) y h1 h2 (by grind)
theorem base_y' {z:Int} (h:Zp (5*z-1)):4*z%prm=bp.y:=mod_of (base_aux (by unfold Zp;decide+kernel) h) (y_bd bp).1 (y_bd bp).2
theorem base_has {z:Int} (h:Zp (5*z-1)):has (4*z) false=true:=by
 cases hh:has (4*z) false with
 |true=>rfl
 |false=>exact absurd (by rw[bp_tx];decide) (has_none hh bp (base_y' h).symm)
theorem base_x {z:Int} (h:Zp (5*z-1)):Zp (xo (4*z) false-tx bp):=by
 obtain⟨P,hy,hx,hp⟩:=has_some (base_has h)
 have e:P=bp:=pb_inj (by unfold pb;rw[hy,base_y' h,hp,bp_tx];decide)
 rw[←e,hx]
 exact zp_lin1 (-1) (zp_emod (xo (4*z) false)) (by grind)
set_option maxRecDepth 100000 in
set_option maxHeartbeats 8000000 in
theorem r_Base19:∃t,ReO t bp∧Gives 14 #[] (.agg t):=by
 obtain⟨x1,h1,c1⟩:=n_small 4 (by decide) (by decide)
 obtain⟨x3,h3,c3⟩:=n_small 5 (by decide) (by decide)
 obtain⟨x5,h5,c5⟩:=n_inv h3;obtain⟨x7,h7,c7⟩:=n_mul h1 h5;obtain⟨tv,htv,cX⟩:=r_onX (odd:=false) h7;rw[base_has (iv_mul n5),if_pos rfl] at htv;rw[base_has (iv_mul n5)] at cX
 obtain⟨x11,h11,c11⟩:=n_small 1 (by decide) (by decide)
 refine⟨_,⟨tv,x7,x11,_,_,_,rfl,htv,h7,h11,rp_flat (base_x (iv_mul n5)) (by rw[←base_y' (iv_mul n5)];exact zp_lin1 (-1) (zp_emod (4*iv 5)) (by grind))⟩,fun w=>?_⟩
 go_enter Tryd.func14,Tryd.ntmps14
 iterate 6 go_step
 generalize hal_:(w.alloc (.cells #[.int .u64 0,.int .u64 0,.int .u64 0,.int .u64 0,.int .u64 0,.int .u64 0,.int .u64 0,.int .u64 0,.int .u64 0,.int .u64 0,.int .u64 0,.int .u64 0,.int .u64 0,.int .u64 0,.int .u64 0,.int .u64 0,.int .u64 0,.int .u64 0,.int .u64 0,.int .u64 0,.int .u64 0,.int .u64 0,.int .u64 0,.int .u64 0,.int .u64 0,.int .u64 0,.int .u64 0,.int .u64 0,.int .u64 0,.int .u64 0,.int .u64 0,.int .u64 0,.int .u64 0,.int .u64 0,.int .u64 0,.int .u64 0,.int .u64 0,.int .u64 0,.int .u64 0,.int .u64 0,.int .u64 0,.int .u64 0,.int .u64 0,.int .u64 0,.int .u64 0,.int .u64 0,.int .u64 0,.int .u64 0] 38))=w0
 have rp0:w0.heap[w.heap.size]? =some (.cells #[.int .u64 0,.int .u64 0,.int .u64 0,.int .u64 0,.int .u64 0,.int .u64 0,.int .u64 0,.int .u64 0,.int .u64 0,.int .u64 0,.int .u64 0,.int .u64 0,.int .u64 0,.int .u64 0,.int .u64 0,.int .u64 0,.int .u64 0,.int .u64 0,.int .u64 0,.int .u64 0,.int .u64 0,.int .u64 0,.int .u64 0,.int .u64 0,.int .u64 0,.int .u64 0,.int .u64 0,.int .u64 0,.int .u64 0,.int .u64 0,.int .u64 0,.int .u64 0,.int .u64 0,.int .u64 0,.int .u64 0,.int .u64 0,.int .u64 0,.int .u64 0,.int .u64 0,.int .u64 0,.int .u64 0,.int .u64 0,.int .u64 0,.int .u64 0,.int .u64 0,.int .u64 0,.int .u64 0,.int .u64 0] 38 (0,0)):=by rw[←hal_];exact hp1_0 w _
 have hw:Below w.heap.size w w0:=by rw[←hal_];exact((Below.refl _ _).alloc (Nat.le_refl _) _)
 clear hal_
 go_wp2_with (first|(refine wpList_load_want rfl 38 _ rfl (w.heap.size) rfl 38 #[.int .u64 0,.int .u64 0,.int .u64 0,.int .u64 0,.int .u64 0,.int .u64 0,.int .u64 0,.int .u64 0,.int .u64 0,.int .u64 0,.int .u64 0,.int .u64 0,.int .u64 0,.int .u64 0,.int .u64 0,.int .u64 0,.int .u64 0,.int .u64 0,.int .u64 0,.int .u64 0,.int .u64 0,.int .u64 0,.int .u64 0,.int .u64 0,.int .u64 0,.int .u64 0,.int .u64 0,.int .u64 0,.int .u64 0,.int .u64 0,.int .u64 0,.int .u64 0,.int .u64 0,.int .u64 0,.int .u64 0,.int .u64 0,.int .u64 0,.int .u64 0,.int .u64 0,.int .u64 0,.int .u64 0,.int .u64 0,.int .u64 0,.int .u64 0,.int .u64 0,.int .u64 0,.int .u64 0,.int .u64 0] (0,0) _ rp0 Tryd.underlying38 rfl (by kernel_rfl) ?_)|fail)
 refine(c1.at _).mono ?_;rintro e w2 ⟨rfl,hb⟩;replace rp0:=keep hb rp0;replace hw:=Below.after hw hb;clear hb
 go_wp2_with (first|(refine wpList_load_want rfl 38 _ rfl (w.heap.size) rfl 38 #[.int .u64 0,.int .u64 0,.int .u64 0,.int .u64 0,.int .u64 0,.int .u64 0,.int .u64 0,.int .u64 0,.int .u64 0,.int .u64 0,.int .u64 0,.int .u64 0,.int .u64 0,.int .u64 0,.int .u64 0,.int .u64 0,.int .u64 0,.int .u64 0,.int .u64 0,.int .u64 0,.int .u64 0,.int .u64 0,.int .u64 0,.int .u64 0,.int .u64 0,.int .u64 0,.int .u64 0,.int .u64 0,.int .u64 0,.int .u64 0,.int .u64 0,.int .u64 0,.int .u64 0,.int .u64 0,.int .u64 0,.int .u64 0,.int .u64 0,.int .u64 0,.int .u64 0,.int .u64 0,.int .u64 0,.int .u64 0,.int .u64 0,.int .u64 0,.int .u64 0,.int .u64 0,.int .u64 0,.int .u64 0] (0,0) _ rp0 Tryd.underlying38 rfl (by kernel_rfl) ?_)|fail)
 refine(c3.at _).mono ?_;rintro e w4 ⟨rfl,hb⟩;replace rp0:=keep hb rp0;replace hw:=Below.after hw hb;clear hb
 go_wp2_with (first|(refine wpList_load_want rfl 38 _ rfl (w.heap.size) rfl 38 #[.int .u64 0,.int .u64 0,.int .u64 0,.int .u64 0,.int .u64 0,.int .u64 0,.int .u64 0,.int .u64 0,.int .u64 0,.int .u64 0,.int .u64 0,.int .u64 0,.int .u64 0,.int .u64 0,.int .u64 0,.int .u64 0,.int .u64 0,.int .u64 0,.int .u64 0,.int .u64 0,.int .u64 0,.int .u64 0,.int .u64 0,.int .u64 0,.int .u64 0,.int .u64 0,.int .u64 0,.int .u64 0,.int .u64 0,.int .u64 0,.int .u64 0,.int .u64 0,.int .u64 0,.int .u64 0,.int .u64 0,.int .u64 0,.int .u64 0,.int .u64 0,.int .u64 0,.int .u64 0,.int .u64 0,.int .u64 0,.int .u64 0,.int .u64 0,.int .u64 0,.int .u64 0,.int .u64 0,.int .u64 0] (0,0) _ rp0 Tryd.underlying38 rfl (by kernel_rfl) ?_)|fail)
 refine(c5.at _).mono ?_;rintro e w6 ⟨rfl,hb⟩;replace rp0:=keep hb rp0;replace hw:=Below.after hw hb;clear hb
 go_wp2_with (first|(refine wpList_load_want rfl 38 _ rfl (w.heap.size) rfl 38 #[.int .u64 0,.int .u64 0,.int .u64 0,.int .u64 0,.int .u64 0,.int .u64 0,.int .u64 0,.int .u64 0,.int .u64 0,.int .u64 0,.int .u64 0,.int .u64 0,.int .u64 0,.int .u64 0,.int .u64 0,.int .u64 0,.int .u64 0,.int .u64 0,.int .u64 0,.int .u64 0,.int .u64 0,.int .u64 0,.int .u64 0,.int .u64 0,.int .u64 0,.int .u64 0,.int .u64 0,.int .u64 0,.int .u64 0,.int .u64 0,.int .u64 0,.int .u64 0,.int .u64 0,.int .u64 0,.int .u64 0,.int .u64 0,.int .u64 0,.int .u64 0,.int .u64 0,.int .u64 0,.int .u64 0,.int .u64 0,.int .u64 0,.int .u64 0,.int .u64 0,.int .u64 0,.int .u64 0,.int .u64 0] (0,0) _ rp0 Tryd.underlying38 rfl (by kernel_rfl) ?_)|fail)
 refine(c7.at _).mono ?_;rintro e w8 ⟨rfl,hb⟩;replace rp0:=keep hb rp0;replace hw:=Below.after hw hb;clear hb
 go_wp2_with (first|(refine wpList_store_row rfl 36 _ _ rfl (w8.heap.size) x7 rfl rfl 36 #[.int .u64 0,.int .u64 0,.int .u64 0,.int .u64 0,.int .u64 0,.int .u64 0,.int .u64 0,.int .u64 0,.int .u64 0,.int .u64 0,.int .u64 0,.int .u64 0,.int .u64 0,.int .u64 0,.int .u64 0,.int .u64 0] (hp1_0 w8 _) h7.info (h7.fits rfl) h7.one ?_;rw[setRow_alloc_new _ _ _ _ _ _ (by simp)];refine wpList_stay ?_)|fail)
 unfold WpStay
 try simp only[Act.put]
 have rl1:(w8.alloc (.cells x7 36)).heap[w8.heap.size]? =some (.cells x7 36 (0,0)):=hp1_0 w8 _;have hb:Below w8.heap.size w8 (w8.alloc (.cells x7 36)):=((Below.refl _ _).alloc (Nat.le_refl _) _)
 generalize (w8.alloc (.cells x7 36))=wy at *
 have ygy_0:=lt_of_row rp0;have ygy:=hw.size;replace rp0:=keep hb rp0;replace hw:=Below.after hw hb;clear hb
 generalize w8.heap.size=gy at *
 clear w8
 go_wp2_with (first|(refine wpList_load_want rfl 38 _ rfl (w.heap.size) rfl 38 #[.int .u64 0,.int .u64 0,.int .u64 0,.int .u64 0,.int .u64 0,.int .u64 0,.int .u64 0,.int .u64 0,.int .u64 0,.int .u64 0,.int .u64 0,.int .u64 0,.int .u64 0,.int .u64 0,.int .u64 0,.int .u64 0,.int .u64 0,.int .u64 0,.int .u64 0,.int .u64 0,.int .u64 0,.int .u64 0,.int .u64 0,.int .u64 0,.int .u64 0,.int .u64 0,.int .u64 0,.int .u64 0,.int .u64 0,.int .u64 0,.int .u64 0,.int .u64 0,.int .u64 0,.int .u64 0,.int .u64 0,.int .u64 0,.int .u64 0,.int .u64 0,.int .u64 0,.int .u64 0,.int .u64 0,.int .u64 0,.int .u64 0,.int .u64 0,.int .u64 0,.int .u64 0,.int .u64 0,.int .u64 0] (0,0) _ rp0 Tryd.underlying38 rfl (by kernel_rfl) ?_)|(refine wpList_load_want rfl 36 _ rfl (gy) rfl 36 x7 (0,0) _ rl1 Tryd.underlying36 rfl h7.info ?_)|fail)
 refine(cX.at _).mono ?_;rintro e w10 ⟨rfl,hb⟩;replace rp0:=keep hb rp0;replace rl1:=keep hb rl1;replace hw:=Below.after hw hb;clear hb
 go_wp2_with (first|(refine wpList_store_row rfl 36 _ _ rfl (w10.heap.size) tv rfl rfl 36 #[.int .u64 0,.int .u64 0,.int .u64 0,.int .u64 0,.int .u64 0,.int .u64 0,.int .u64 0,.int .u64 0,.int .u64 0,.int .u64 0,.int .u64 0,.int .u64 0,.int .u64 0,.int .u64 0,.int .u64 0,.int .u64 0] (hp1_0 w10 _) htv.info (htv.fits rfl) htv.one ?_;rw[setRow_alloc_new _ _ _ _ _ _ (by simp)];refine wpList_stay ?_)|fail)
 unfold WpStay
 try simp only[Act.put]
 have rl2:(w10.alloc (.cells tv 36)).heap[w10.heap.size]? =some (.cells tv 36 (0,0)):=hp1_0 w10 _;have hb:Below w10.heap.size w10 (w10.alloc (.cells tv 36)):=((Below.refl _ _).alloc (Nat.le_refl _) _)
 generalize (w10.alloc (.cells tv 36))=wx at *
 have ygx_0:=lt_of_row rp0;have ygx_1:=lt_of_row rl1;have ygx:=hw.size;replace rp0:=keep hb rp0;replace rl1:=keep hb rl1;replace hw:=Below.after hw hb;clear hb
 generalize w10.heap.size=gx at *
 clear w10
 go_wp2_with (fail)
 have Hrp0:=keepr rp0;have Hrl1:=keepr rl1;have Hrl2:=keepr rl2
 refine wp_region_tail (C:=fun w'=>∃p:Regrown,w'=grow (redrawn wx p.d) p.os) 4 _ rfl rfl rfl (by kernel_rfl) (by kernel_rfl) (by kernel_rfl) (by kernel_rfl) ⟨⟨wx.drawn+1,#[]⟩,by rw[grow_empty];rfl⟩ ?_
 dsimp only[List.set,idle];refine wpQuiet_load_row rfl 36 _ rfl (gx) rfl 36 tv (0,0) _ Hrl2.out Tryd.underlying36 rfl htv.info ?_;simp only[Act.put,ZPd,ZPe,ZPf];refine wpQuiet_load_row rfl 36 _ rfl (gy) rfl 36 x7 (0,0) _ Hrl1.out Tryd.underlying36 rfl h7.info ?_;simp only[Act.put,ZPd,ZPe,ZPf];go_big_quiet_step (exact c11.re);refine wpQuiet_build rfl 38 _ rfl [(0,.agg tv),(1,.agg x7),(2,.agg x11)] rfl (r3 tv x7 x11) (q3_built htv.size h7.size h11.size) ?_;simp only[Act.put,ZPd,ZPe,ZPf];refine wpQuiet_idle rfl rfl rfl ?_;rintro _ ⟨p,rfl⟩;have hb:=below_regrown wx p.d p.os
 generalize grow (redrawn wx p.d) p.os=w12 at *
 replace rp0:=keep hb rp0;replace rl1:=keep hb rl1;replace rl2:=keep hb rl2;replace hw:=Below.after hw hb;clear hb;clear Hrp0 Hrl1 Hrl2
 go_wp2_with (first|(refine wpList_store_row rfl 38 _ _ rfl (w.heap.size) (r3 tv x7 x11) rfl rfl 38 _ rp0 (q3_info htv.size h7.size h11.size) ((show _=48 from rfl).trans (r3_size htv.size h7.size h11.size).symm) (r3_one htv.one h7.one h11.one) ?_)|fail)
 exact bodyPost_ret (v:=.agg (r3 tv x7 x11)) (results_cell_row Tryd.results14 _ _ (w.heap.size) _ (r3 tv x7 x11) _ _ rfl (setRow_heap _ _ _ _ _ _ rp0) Tryd.underlying38 rfl (q3_info htv.size h7.size h11.size)) rfl ⟨rfl,below_setRow hw (by omega) _⟩
theorem eq_pb (P:E1):∀W,(Op.equalIn 10000 23 (.agg (kb (pb P))) (.agg (kb (pb P)))).run Tryd.prog W=.ok true W:=fun W=>by rw[kb_equal _ _ (pb_bd P).1 (pb_bd P).2 (pb_bd P).1 (pb_bd P).2];simp
end Go.Proofs.YtdcpcdkbhgkmlaaDoor
