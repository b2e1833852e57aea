"""Fixed values that the tests hold the program to, also where Python's hashlib has no SHA-512/256.

The values were written out by Python's hashlib and hmac, not copied from the standards' own pages.
"""

# The messages of the examples to FIPS 180-4, of one block and of two, and no bytes: the sums of kinds 0, 1 and 2.
EXAMPLES = (
    (
        "",
        (
            "cf83e1357eefb8bdf1542850d66d8007d620e4050b5715dc83f4a921d36ce9ce"
            "47d0d13c5d85f2b0ff8318d2877eec2f63b931bd47417a81a538327af927da3e",
            "38b060a751ac96384cd9327eb1b1e36a21fdb71114be07434c0cc7bf63f6e1da"
            "274edebfe76f65fbd51ad2f14898b95b",
            "c672b8d1ef56ed28ab87c3622c5114069bdd3ad7b8f9737498d0c01ecef0967a",
        ),
    ),
    (
        "abc",
        (
            "ddaf35a193617abacc417349ae20413112e6fa4e89a97ea20a9eeee64b55d39a"
            "2192992a274fc1a836ba3c23a3feebbd454d4423643ce80e2a9ac94fa54ca49f",
            "cb00753f45a35e8bb5a03d699ac65007272c32ab0eded1631a8b605a43ff5bed"
            "8086072ba1e7cc2358baeca134c825a7",
            "53048e2681941ef99b2e29b76b4c7dabe4c2d0c634fc6d46e0e2f13107e7af23",
        ),
    ),
    (
        "abcdefghbcdefghicdefghijdefghijkefghijklfghijklmghijklmnhijklmnoijklmnopjklmnopqklmnopqrlmnopqrsmnopqrstnopqrstu",
        (
            "8e959b75dae313da8cf4f72814fc143f8f7779c6eb9f7fa17299aeadb6889018"
            "501d289e4900f7e4331b99dec4b5433ac7d329eeb6dd26545e96e55b874be909",
            "09330c33f71147e83d192fc782cd1b4753111b173b3b05d22fa08086e3b0f712"
            "fcc7c71a557e2db966c3e9fa91746039",
            "3928e184fb8690f840da3988121d31be65cb9d3ef83ee6146feac861e19b563a",
        ),
    ),
)

# SHA-512/256 of pattern(length), by length.
SHORT_SUMS = {
    0: "c672b8d1ef56ed28ab87c3622c5114069bdd3ad7b8f9737498d0c01ecef0967a",
    1: "5621a3af58461bf57da78828a3122a0b6c4be14d27b5a1e6388a56e19bcfaa67",
    111: "b20757cfa399545cb49ca9116688d7aabe51f9a44fa0b09df3d33de670870263",
    112: "e653d88aeafc8266e9fbce54f780ca7f76bd5518c39574a5a8d1f6c3d809fc5c",
    113: "48310f5fee1013c640e27afe23a68992714f3717e4400f5a35f3d103e683f397",
    127: "bd6f562d3eef90c1b3be29f5f56b28093c7209f19889ce6a9723034c97308fd6",
    128: "c3c3dbce0b79728008912f8099d005062eb8a0c68baae67c8c0e244951fa4e5e",
    129: "64d0ad4c1db2f314aa9c6de7a48eec2e87fc57315f3aa55aa99dde0b8a5d72bc",
    239: "efd15841ebd04320f2a0742b46afd7bd142f08af600058684fa49f3a505bd6fb",
    240: "c2e8a6366d9716c55a622de944b3a0a48035db7248d7a8cf9424a47a60eb990c",
    241: "ded65beebb1f3863b6867e24db26267c074e945ea38a36ba5d8f7783f3d84153",
    255: "c98a1777f881abac97396357c12172ed38b728e707581eab0e0f4b194cc2e196",
    256: "a8fd625505b5f897f5b2a7b9f19f75587df8c0e7ceac7c6e2516c242979da1e9",
    257: "1901bcb4ff3cbf73dc1522d3066cafa3ec450f7d1cb51d46baa943070eed8974",
    5000: "c8f12488be21c29d43f566c0c90abe65913a4ae6168e46d5cacad598229ee39e",
}

# HMAC with SHA-512/256 of pattern(300) under the key pattern(length), by length.
SHORT_MARKS = {
    0: "dbef64c9fcc178da91dfcbb06e85704394d9484a2e16673a3d7620d06a7f305b",
    1: "f2a10b835e210f651a4ec85f0f88d95278fe72b952e6f87ed6eea672476030e0",
    20: "4e6bf8d57d2093998c5dabff8287478d84873b4801ee0317b1a239b949381272",
    127: "9c88414d4d20d8aee9c0161d82412fb7661c89c582655634330aa7c05e78f4e7",
    128: "68b0cdaa21e7ff703d9c5544df9cfe7f3a99c5e09ae688caac0f81f626c562cd",
    129: "bc539db678d4d3801ef4def33b9a6bbc2a6577453d9caa80ef2d2f261a95573b",
    1024: "5d8c79b51602abc6aefb198dda7cf2e9ed762f324e9b68fe47bbc6ec0e4d1cbc",
}

# The inputs of RFC 4231, 4.2 to 4.8 without the cut one (4.6): key, data, HMAC-SHA-512, HMAC-SHA-384, in hex.
RFC_4231 = (
    (
        "0b0b0b0b0b0b0b0b0b0b0b0b0b0b0b0b0b0b0b0b",
        "4869205468657265",
        "87aa7cdea5ef619d4ff0b4241a1d6cb02379f4e2ce4ec2787ad0b30545e17cde"
        "daa833b7d6b8a702038b274eaea3f4e4be9d914eeb61f1702e696c203a126854",
        "afd03944d84895626b0825f4ab46907f15f9dadbe4101ec682aa034c7cebc59c"
        "faea9ea9076ede7f4af152e8b2fa9cb6",
    ),
    (
        "4a656665",
        "7768617420646f2079612077616e7420666f72206e6f7468696e673f",
        "164b7a7bfcf819e2e395fbe73b56e0a387bd64222e831fd610270cd7ea250554"
        "9758bf75c05a994a6d034f65f8f0e6fdcaeab1a34d4a6b4b636e070a38bce737",
        "af45d2e376484031617f78d2b58a6b1b9c7ef464f5a01b47e42ec3736322445e"
        "8e2240ca5e69e2c78b3239ecfab21649",
    ),
    (
        "aaaaaaaaaaaaaaaaaaaaaaaaaaaaaaaaaaaaaaaa",
        "dddddddddddddddddddddddddddddddddddddddddddddddddddddddddddddddd"
        "dddddddddddddddddddddddddddddddddddd",
        "fa73b0089d56a284efb0f0756c890be9b1b5dbdd8ee81a3655f83e33b2279d39"
        "bf3e848279a722c806b485a47e67c807b946a337bee8942674278859e13292fb",
        "88062608d3e6ad8a0aa2ace014c8a86f0aa635d947ac9febe83ef4e55966144b"
        "2a5ab39dc13814b94e3ab6e101a34f27",
    ),
    (
        "0102030405060708090a0b0c0d0e0f10111213141516171819",
        "cdcdcdcdcdcdcdcdcdcdcdcdcdcdcdcdcdcdcdcdcdcdcdcdcdcdcdcdcdcdcdcd"
        "cdcdcdcdcdcdcdcdcdcdcdcdcdcdcdcdcdcd",
        "b0ba465637458c6990e5a8c5f61d4af7e576d97ff94b872de76f8050361ee3db"
        "a91ca5c11aa25eb4d679275cc5788063a5f19741120c4f2de2adebeb10a298dd",
        "3e8a69b7783c25851933ab6290af6ca77a9981480850009cc5577c6e1f573b4e"
        "6801dd23c4a7d679ccf8a386c674cffb",
    ),
    (
        "aaaaaaaaaaaaaaaaaaaaaaaaaaaaaaaaaaaaaaaaaaaaaaaaaaaaaaaaaaaaaaaa"
        "aaaaaaaaaaaaaaaaaaaaaaaaaaaaaaaaaaaaaaaaaaaaaaaaaaaaaaaaaaaaaaaa"
        "aaaaaaaaaaaaaaaaaaaaaaaaaaaaaaaaaaaaaaaaaaaaaaaaaaaaaaaaaaaaaaaa"
        "aaaaaaaaaaaaaaaaaaaaaaaaaaaaaaaaaaaaaaaaaaaaaaaaaaaaaaaaaaaaaaaa"
        "aaaaaa",
        "54657374205573696e67204c6172676572205468616e20426c6f636b2d53697a"
        "65204b6579202d2048617368204b6579204669727374",
        "80b24263c7c1a3ebb71493c1dd7be8b49b46d1f41b4aeec1121b013783f8f352"
        "6b56d037e05f2598bd0fd2215d6a1e5295e64f73f63f0aec8b915a985d786598",
        "4ece084485813e9088d2c63a041bc5b44f9ef1012a2b588f3cd11f05033ac4c6"
        "0c2ef6ab4030fe8296248df163f44952",
    ),
    (
        "aaaaaaaaaaaaaaaaaaaaaaaaaaaaaaaaaaaaaaaaaaaaaaaaaaaaaaaaaaaaaaaa"
        "aaaaaaaaaaaaaaaaaaaaaaaaaaaaaaaaaaaaaaaaaaaaaaaaaaaaaaaaaaaaaaaa"
        "aaaaaaaaaaaaaaaaaaaaaaaaaaaaaaaaaaaaaaaaaaaaaaaaaaaaaaaaaaaaaaaa"
        "aaaaaaaaaaaaaaaaaaaaaaaaaaaaaaaaaaaaaaaaaaaaaaaaaaaaaaaaaaaaaaaa"
        "aaaaaa",
        "5468697320697320612074657374207573696e672061206c6172676572207468"
        "616e20626c6f636b2d73697a65206b657920616e642061206c61726765722074"
        "68616e20626c6f636b2d73697a6520646174612e20546865206b6579206e6565"
        "647320746f20626520686173686564206265666f7265206265696e6720757365"
        "642062792074686520484d414320616c676f726974686d2e",
        "e37b6a775dc87dbaa4dfa9f96e5e3ffddebd71f8867289865df5a32d20cdc944"
        "b6022cac3c4982b10d5eeb55c3e4de15134676fb6de0446065c97440fa8c6a58",
        "6617178e941f020d351e2f254e8fd32c602420feb0b8fb9adccebb82461e99c5"
        "a678cc31e799176d3860e6110c46523e",
    ),
)
