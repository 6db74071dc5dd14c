"""Programs made shorter without a change."""
