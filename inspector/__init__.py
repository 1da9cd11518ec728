"""An inspector comes: seasons of looks and misdeeds, played and reckoned."""
