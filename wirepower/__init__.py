"""Power over the wire: a switch that gives power to devices through its ports."""
