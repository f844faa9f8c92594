"""Oathmoot: agreement among nodes that choose whom they trust."""
